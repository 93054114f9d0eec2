"""What the document defines, worked out from its words by trying everything.

Nothing here calls the package; all of it takes CHARTS made of tuples.
"""

from functools import lru_cache
from itertools import combinations, permutations, product


def named(chart):
    return [name for name, _ in chart[1]]


def word_in(chart, name):
    return dict(chart[1])[name]


def all_words(chart):
    return list(product(*map(range, chart[0])))


def all_walks(chart, many):
    both = {*chart[2], *((other, one) for one, other in chart[2])}
    walks = [(name,) for name in named(chart)]
    for _ in range(many):
        walks = [(*walk, name) for walk in walks for name in named(chart) if (walk[-1], name) in both]
    return walks


@lru_cache
def all_events(chart, long):
    walks = [walk for many in range(long + 1) for walk in all_walks(chart, many)]
    return tuple(sorted({tuple(sorted(set(walk))) for walk in walks}))


@lru_cache
def values_of(chart, some):
    """For each field the values of these states."""
    return [{word_in(chart, name)[field] for name in some} for field in range(len(chart[0]))]


def is_shown(chart, some, word):
    """Whether the WORD is in the BOX of these states."""
    return all(value in values for value, values in zip(word, values_of(chart, some)))


def showing(chart, long, word):
    return [event for event in all_events(chart, long) if is_shown(chart, event, word)]


def common(some_sets):
    return tuple(sorted(set.intersection(*map(set, some_sets))))


def may_tell(chart, long):
    """For each WORD that is met, the states that are in all EVENTS that show it."""
    shown = {word: [] for word in all_words(chart)}
    for event in all_events(chart, long):
        for word in shown:
            if is_shown(chart, event, word):
                shown[word].append(event)
    return {word: common(some) for word, some in shown.items() if some}


def is_right(chart, long):
    return all(may_tell(chart, long).values())


def is_told_right(chart, long, reader):
    """Whether the READER tells a state of each EVENT at each WORD of its BOX."""
    told = dict(reader)
    return all(told.get(word) in event for word in all_words(chart) for event in showing(chart, long, word))


def is_parted(chart, some_sets):
    """Whether the sets of states are parted by a field."""
    for field in range(len(chart[0])):
        if not common([{word_in(chart, name)[field] for name in some} for some in some_sets]):
            return True
    return False


def unparted(chart, long, most):
    """All families of two EVENTS or more, at most so many, not parted, without a common state."""
    families = [family for many in range(2, most + 1) for family in combinations(all_events(chart, long), many)]
    return [family for family in families if not common(family) and not is_parted(chart, family)]


def is_a_bar(chart, long, pair):
    word, events = pair
    known = all_events(chart, long)
    if list(events) != sorted(set(events)) or not 2 <= len(events) <= long + 2:
        return False
    return all(event in known and is_shown(chart, event, word) for event in events) and not common(events)


def right_readers(chart, long):
    """All READERS that are right and tell just at the WORDS that are met."""
    may = may_tell(chart, long)
    for names in product(*(may[word] for word in sorted(may))):
        yield tuple(zip(sorted(may), names))


def how_many_right(chart, long):
    many = 1
    for able in may_tell(chart, long).values():
        many *= len(able)
    return many


def all_orders(chart, one, other):
    """All orders of the fields at which both are unlike, ascending."""
    start, goal = word_in(chart, one), word_in(chart, other)
    return list(permutations([field for field in range(len(start)) if start[field] != goal[field]]))


def told_in_order(chart, reader, one, other, order):
    told, word, goal = dict(reader), list(word_in(chart, one)), word_in(chart, other)
    row = [told.get(tuple(word))]
    for field in order:
        word[field] = goal[field]
        row.append(told.get(tuple(word)))
    return tuple(row)


def changes_once(row, one, other):
    return any(row == (one,) * at + (other,) * (len(row) - at) for at in range(1, len(row)))


def flickers(chart, reader):
    """All pairs of a move and an order by which the READER does not change just once."""
    found = []
    for one, other in chart[2]:
        for order in all_orders(chart, one, other):
            if not changes_once(told_in_order(chart, reader, one, other, order), one, other):
                found.append(((one, other), order))
    return found


def is_steady(chart, reader):
    """Whether a READER that is right changes just once in each move, in either direction."""
    for one, other in [*chart[2], *((other, one) for one, other in chart[2])]:
        for order in all_orders(chart, one, other):
            if not changes_once(told_in_order(chart, reader, one, other, order), one, other):
                return False
    return True


def unlike(reader, other):
    """At how many of the WORDS of the READER the other one tells another state."""
    return sum(name != dict(other)[word] for word, name in reader)


def meets(one, other):
    return bool(set(one) & set(other))


def meeting_families(chart, long):
    """All families of two EVENTS or more, at most long + 2, that meet two by two, without a common state."""
    known = all_events(chart, long)
    for many in range(2, long + 3):
        for family in combinations(known, many):
            if not common(family) and all(meets(*pair) for pair in combinations(family, 2)):
                yield family


def all_cuts(chart):
    least, *more = named(chart)
    return sorted((least, *rest) for many in range(len(more) + 1) for rest in combinations(more, many))


def cut_parts(cut, one, other):
    """Whether one of both lies within the CUT and the other one has none of its states."""
    return any(set(inner) <= set(cut) and not meets(outer, cut) for inner, outer in ((one, other), (other, one)))


def pairs_to_part(chart, long):
    return [(one, other) for one, other in combinations(all_events(chart, long), 2) if not meets(one, other)]


def parts_all(chart, long, cuts):
    return all(any(cut_parts(cut, *pair) for cut in cuts) for pair in pairs_to_part(chart, long))


def in_bits(chart, cuts):
    """The CHART with a field for each CUT."""
    states = tuple((name, tuple(int(name not in cut) for cut in cuts)) for name in named(chart))
    return (2,) * len(cuts), states, chart[2]


def led_to(chart, start, barred=()):
    """All states to which moves lead from this one, itself, too, by moves that are not barred."""
    reached = {start}
    while True:
        more = {name for move in chart[2] if move not in barred and reached & set(move) for name in move}
        if more <= reached:
            return tuple(sorted(reached))
        reached |= more


def parts(chart):
    return sorted({led_to(chart, name) for name in named(chart)})


def has_move(chart, one, other):
    return (one, other) in chart[2] or (other, one) in chart[2]


def rings(chart):
    for many in range(3, len(chart[1]) + 1):
        for some in permutations(named(chart), many):
            if all(has_move(chart, *pair) for pair in zip(some, (*some[1:], some[0]))):
                yield some


@lru_cache
def lumps(chart):
    in_rings = [{tuple(sorted(pair)) for pair in zip(some, (*some[1:], some[0]))} for some in rings(chart)]
    found = set()
    for move in chart[2]:
        tied = [other for other in chart[2] if other == move or any({move, other} <= some for some in in_rings)]
        found.add(tuple(sorted({name for pair in tied for name in pair})))
    return sorted(found)


def sides(chart, lump):
    within = [move for move in chart[2] if set(move) <= set(lump)]
    return tuple(led_to(chart, name, within) for name in lump)


def fields_apart(chart, some_sets):
    """The fields at which no value is that of states of two of these sets."""
    found = []
    for field in range(len(chart[0])):
        values = [{word_in(chart, name)[field] for name in some} for some in some_sets]
        if not any(meets(*pair) for pair in combinations(values, 2)):
            found.append(field)
    return tuple(found)


@lru_cache
def events_of_any_length(chart):
    """All sets of NAMES of walks, of however many moves."""
    found, fresh = set(), {(name,) for name in named(chart)}
    while fresh:
        found |= fresh
        grown = {tuple(sorted({*some, name})) for some in fresh for name in named(chart)
                 if any(has_move(chart, name, other) for other in some)}
        fresh = grown - found
    return sorted(found)


def always_told(chart, word):
    """The states that are in all sets of events_of_any_length that show the WORD; None if none shows it."""
    some = [event for event in events_of_any_length(chart) if is_shown(chart, event, word)]
    return common(some) if some else None


def reflected(sizes, number):
    if not sizes:
        return ()
    rest = 1
    for size in sizes[1:]:
        rest *= size
    value, left = number // rest, number % rest
    return (value, *reflected(sizes[1:], left if value % 2 == 0 else rest - 1 - left))


def shifted(bits):
    """All WORDS of the SHIFTED code, in their order."""
    first = ["1" * number + "0" * (bits - number) for number in range(bits)]
    return [tuple(map(int, row)) for row in first + [row.translate({48: "1", 49: "0"}) for row in first]]


def with_moves(chart, more):
    return chart[0], chart[1], tuple(sorted({*chart[2], *more}))


def pairs_unjoined(chart):
    return [pair for pair in combinations(named(chart), 2) if pair not in chart[2]]


def sets_to_join(chart):
    """All sets of moves that can be put in together so that the CHART is right over 1."""
    pairs = pairs_unjoined(chart)
    for many in range(len(pairs) + 1):
        for some in combinations(pairs, many):
            if is_right(with_moves(chart, some), 1):
                yield some


def row_by(chart, one, other, order):
    word, goal = list(word_in(chart, one)), word_in(chart, other)
    row = [tuple(word)]
    for field in order:
        if word[field] != goal[field]:
            word[field] = goal[field]
            row.append(tuple(word))
    return tuple(row)


def both_ways(chart):
    return [*chart[2], *((other, one) for one, other in chart[2])]


def showing_by(chart, order):
    """For each WORD that is shown by the order, the EVENTS over 1 that show it, ascending."""
    shown = [(word_in(chart, name), (name,)) for name in named(chart)]
    for one, other in both_ways(chart):
        shown += [(word, tuple(sorted((one, other)))) for word in row_by(chart, one, other, order)]
    return {word: sorted({event for other, event in shown if other == word}) for word, _ in sorted(shown)}


def may_by(chart, order):
    return {word: common(some) for word, some in showing_by(chart, order).items()}


def is_right_by(chart, order, reader):
    told = dict(reader)
    showing = showing_by(chart, order)
    return all(told.get(word) in event for word in showing for event in showing[word])


def is_steady_by(chart, order, reader):
    told = dict(reader)
    if not is_right_by(chart, order, reader):
        return False
    rows = [(row_by(chart, *pair, order), pair) for pair in both_ways(chart)]
    return all(changes_once(tuple(told[word] for word in row), *pair) for row, pair in rows)


def how_many_right_by(chart, order):
    many = 1
    for able in may_by(chart, order).values():
        many *= len(able)
    return many


def right_readers_by(chart, order):
    """All READERS that are right by the order and tell just at the WORDS that are shown."""
    may = may_by(chart, order)
    for names in product(*(may[word] for word in sorted(may))):
        yield tuple(zip(sorted(may), names))


def must_turn_back(chart, order):
    """Whether in some row a WORD that must tell its last state stands ahead of one that must tell its first."""
    may = may_by(chart, order)
    for one, other in both_ways(chart):
        able = [may[word] for word in row_by(chart, one, other, order)]
        if any(able[at] == (other,) and (one,) in able[at:] for at in range(len(able))):
            return True
    return False
