"""Walks along the moves of a CHART, and the EVENTS that they make."""

from oldornew.charts import check_names, moves_from, names, near_by_name
from oldornew.plain import in_order


def is_walk(chart, thing):
    if not isinstance(thing, tuple) or len(thing) == 0:
        return False
    near = near_by_name(chart)
    if not all([isinstance(name, str) and name in near for name in thing]):
        return False
    return all([other in near[one] for one, other in zip(thing, thing[1:])])


def how_many_walks(chart, one, other, many):
    check_names(chart, (one, other))
    near = near_by_name(chart)
    ways = {name: 0 for name in near}
    ways[one] = 1
    for _ in range(many):
        ways = ways_further(near, ways)
    return ways[other]


def ways_further(near, ways):
    """Return, for each state, the ways to it by one move more."""
    return {name: sum([ways[back] for back in near[name]]) for name in near}


def moves_apart(chart, one, other):
    check_names(chart, (one, other))
    return moves_from(chart, one).get(other)


def shortest_walk(chart, one, other):
    check_names(chart, (one, other))
    near = near_by_name(chart)
    left = moves_from(chart, other)
    if one not in left:
        return None
    walk = [one]
    while walk[-1] != other:
        here = walk[-1]
        # The least NAME that comes nearer, each time, makes the least walk.
        walk.append(min([there for there in near[here] if left[there] < left[here]]))
    return tuple(walk)


def walks_by_event(chart, long):
    """Return a dict: for each EVENT over long a walk that makes it."""
    near = near_by_name(chart)
    found = {}
    walks = [(name,) for name in names(chart)]
    for _ in range(long + 1):
        for walk in walks:
            event = tuple(sorted(set(walk)))
            found.setdefault(event, walk)
        walks = walks_further(near, walks)
    return found


def walks_further(near, walks):
    """Return the walks that are longer than these by one move."""
    return [(*walk, there) for walk in walks for there in near[walk[-1]]]


def events(chart, long):
    return in_order(list(walks_by_event(chart, long)))


def is_event(chart, long, thing):
    return thing in events(chart, long)


def events_with(chart, long, some):
    check_names(chart, some)
    return tuple([event for event in events(chart, long) if all([name in event for name in some])])


def walk_of(chart, long, some):
    check_names(chart, some)
    return walks_by_event(chart, long).get(tuple(some))
