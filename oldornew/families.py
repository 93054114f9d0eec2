"""Families of EVENTS without a common state."""

from oldornew.boxes import in_all
from oldornew.charts import names
from oldornew.plain import is_ascending
from oldornew.walks import events


def mask_of(things, some):
    """Return a number whose bit k tells whether the thing number k is one of some."""
    return sum([1 << at for at, thing in enumerate(things) if thing in some])


def least_families(chart, long, most):
    """Return the families of at most so many EVENTS over long that have no common
    state, but would have one if any of their members were left out.

    Each family without a common state has one of these in it. It has at most
    long + 2 members, as each one but the first takes away a state of the first.
    """
    known = events(chart, long)
    everyone = names(chart)
    masks = [mask_of(everyone, event) for event in known]
    found = []
    # Nothing is left out as yet: all bits are common.
    rows = [((), -1, [])]
    for _ in range(most):
        rows = longer_rows(masks, rows)
        found.extend([tuple([known[place] for place in row[0]]) for row in rows if row[1] == 0])
        rows = [row for row in rows if row[1] != 0]
    return found


def longer_rows(masks, rows):
    """Return the rows with one place more, behind the others, none of them spare.

    A row is made of its places, of what their masks have in common, and of the
    list of what they would have in common without each one of them. A place is
    spare if that is the same without it; then it is spare in longer rows, too.
    """
    longer = []
    for places, common, others in rows:
        first = places[-1] + 1 if places else 0
        for place in range(first, len(masks)):
            mask = masks[place]
            left = [*[other & mask for other in others], common]
            if common & mask not in left:
                longer.append(((*places, place), common & mask, left))
    return longer


def is_family(chart, long, thing):
    """Tell whether thing is a set of two or more, at most long + 2, EVENTS over
    long without a common state."""
    if not isinstance(thing, tuple) or not 2 <= len(thing) <= long + 2:
        return False
    known = events(chart, long)
    if not all([event in known for event in thing]) or not is_ascending(thing):
        return False
    return in_all(chart, thing) == ()
