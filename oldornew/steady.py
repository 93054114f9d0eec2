"""Steady READERS: in each move they turn just once, whatever the order."""

from itertools import permutations

from oldornew.boxes import box_of
from oldornew.charts import check_joined, words_by_name
from oldornew.errors import NoReader
from oldornew.plain import as_tuples, is_number, is_pair
from oldornew.readers import is_full, is_reader, may_by_word, reader_of, told_by, words_in


def unlike_fields(start, goal):
    """Return the list of the fields at which these WORDS are unlike."""
    return [field for field, value in enumerate(start) if value != goal[field]]


def with_value(word, field, value):
    return (*word[:field], value, *word[field + 1:])


def words_along(start, goal, order):
    """Return the WORDS from start to goal, if the fields change in this order."""
    row = [start]
    for field in order:
        row.append(with_value(row[-1], field, goal[field]))
    return row


def words_between(start, goal):
    """Return all WORDS on the ways from start to goal, each at its *place*.

    Bit k of a place tells whether the field number k of the unlike ones has
    changed. So a place is ahead of those that have all of its bits, and more.
    """
    words = [start]
    for field in unlike_fields(start, goal):
        words = words + [with_value(word, field, goal[field]) for word in words]
    return words


def told_in_order(told, start, goal, order):
    return tuple([told.get(word) for word in words_along(start, goal, order)])


def turns_once(row, one, other):
    """Tell whether the row is one at first, at least once, and other from then on."""
    many = row.count(one)
    return 0 < many < len(row) and row == (one,) * many + (other,) * (len(row) - many)


def settled(bound, one, other):
    """Return what a steady READER tells at each place of a move, if it tells what
    is bound there; None at the places where nothing is bound or follows from it.

    Return None if it cannot be steady.
    """
    found = []
    for place in range(len(bound)):
        ahead = [name for at, name in enumerate(bound) if at & place == at]
        behind = [name for at, name in enumerate(bound) if at & place == place]
        if other in ahead and one in behind:
            return None
        if other in ahead:
            found.append(other)
        elif one in behind:
            found.append(one)
        else:
            found.append(None)
    return found


def ways_of(chart, may):
    """Return the list of the moves; with each one stand the WORDS by their places
    and what is settled there, if a READER tells one of those in may."""
    words = words_by_name(chart)
    ways = []
    for one, other in chart[2]:
        between = words_between(words[one], words[other])
        bound = [may[word][0] if len(may[word]) == 1 else None for word in between]
        ways.append(((one, other), between, settled(bound, one, other)))
    return ways


def steady_told(chart, may):
    """Return a dict: what a steady READER tells at each WORD, one of those in may;
    None if there is none."""
    if not is_full(may):
        return None
    told = {word: may[word][0] for word in may}
    for _, between, bound in ways_of(chart, may):
        if bound is None:
            return None
        # What is open lies in no other move's BOX: the lesser state is told at all of it.
        for word, name in zip(between, bound):
            if name is not None:
                told[word] = name
    return told


def may_with(chart, kept):
    """Return may_by_word, with just what is kept at those WORDS, if it may be told."""
    may = may_by_word(chart, 1)
    for word, name in as_tuples(kept):
        may[word] = tuple([able for able in may[word] if able == name])
    return may


def a_steady(chart):
    return steady_with(chart, ())


def is_steady(chart, thing):
    return is_reader(chart, 1, thing) and flicker(chart, thing) is None


def told_along(chart, reader, one, other, order):
    check_joined(chart, one, other)
    words = words_by_name(chart)
    return told_in_order(told_by(reader), words[one], words[other], order)


def flicker(chart, reader):
    told = told_by(reader)
    words = words_by_name(chart)
    for one, other in chart[2]:
        start, goal = words[one], words[other]
        fields = unlike_fields(start, goal)
        for order in permutations(fields):
            if not turns_once(told_in_order(told, start, goal, order), one, other):
                return (one, other), order
    return None


def is_flicker(chart, reader, thing):
    if not is_pair(thing) or thing[0] not in as_tuples(chart[2]):
        return False
    (one, other), order = thing
    words = words_by_name(chart)
    start, goal = words[one], words[other]
    if not isinstance(order, tuple) or not all([is_number(field) for field in order]):
        return False
    if sorted(order) != unlike_fields(start, goal):
        return False
    return not turns_once(told_in_order(told_by(reader), start, goal, order), one, other)


def must_tell(chart, one, other):
    check_joined(chart, one, other)
    may = may_by_word(chart, 1)
    if not is_full(may):
        raise NoReader()
    words = words_in(box_of(chart, (one, other)))
    first = tuple([word for word in words if may[word] == (one,)])
    return first, tuple([word for word in words if may[word] == (other,)])


def can_be_steady(chart, kept):
    return steady_told(chart, may_with(chart, kept)) is not None


def steady_with(chart, kept):
    told = steady_told(chart, may_with(chart, kept))
    if told is None:
        raise NoReader()
    return reader_of(told)


def how_many_steady(chart):
    may = may_by_word(chart, 1)
    if not is_full(may):
        return 0
    many = 1
    for way in ways_of(chart, may):
        many = many * how_many_turns(open_places(way[2]))
    return many


def open_places(bound):
    return [place for place, name in enumerate(bound) if name is None]


def how_many_turns(places):
    """Return in how many ways a steady READER can tell one or other at these places."""
    if len(places) == 0:
        return 1
    first = places[len(places) // 2]
    # It tells other there, so behind it, too; or one there, so ahead of it, too.
    after_other = [place for place in places if first & place != first]
    after_one = [place for place in places if first & place != place]
    return how_many_turns(after_other) + how_many_turns(after_one)


def fewest_to_mend(chart, reader):
    return len(words_to_mend(chart, told_by(reader)))


def mended(chart, reader):
    told = told_by(reader)
    wrong = words_to_mend(chart, told)
    kept = [(word, told[word]) for word in may_by_word(chart, 1) if word not in wrong]
    return steady_with(chart, kept)


def words_to_mend(chart, told):
    """Return a list of WORDS, as few as can be, such that a steady READER tells
    what is told at all others."""
    wrong = []
    for move, between, bound in ways_of(chart, may_by_word(chart, 1)):
        telling = [told[word] for word in between]
        wrong.extend([between[place] for place in places_to_mend(move, telling, bound)])
    return wrong


def places_to_mend(move, telling, bound):
    """Return the fewest places of a move, where this is told and that is settled,
    at which a steady READER tells another state."""
    one, other = move
    must = [place for place, name in enumerate(bound) if name not in (None, telling[place])]
    free = open_places(bound)
    early = [place for place in free if telling[place] == other]
    late = [place for place in free if telling[place] == one]
    return must + least_cover(early, late)


def least_cover(early, late):
    """Return the fewest of these places such that one of each two is among them,
    an early place and a late one behind it.

    These are as many as such pairs can be taken that have no place in common.
    """
    early_of = {}
    for place in early:
        find_pair(place, late, early_of, {})
    paired = list(early_of.values())
    reached = {}
    for place in early:
        if place not in paired:
            reach(place, late, early_of, reached)
    left = [place for place in early if place not in reached]
    return left + [place for place in late if place in reached]


def find_pair(place, late, early_of, tried):
    """Pair the early place with a late one behind it; those paired ahead may be
    paired anew. Return whether that can be done."""
    for behind in late:
        if place & behind == place and behind not in tried:
            tried[behind] = True
            if behind not in early_of or find_pair(early_of[behind], late, early_of, tried):
                early_of[behind] = place
                return True
    return False


def reach(place, late, early_of, reached):
    """Mark the early place, the late ones behind it, those that they are paired with,
    and so on."""
    reached[place] = True
    for behind in late:
        if place & behind == place and behind not in reached:
            reached[behind] = True
            reach(early_of[behind], late, early_of, reached)
