"""Told orders: all moves change their fields in one order, so they show fewer WORDS."""

from itertools import combinations, permutations

from oldornew.boxes import in_each
from oldornew.charts import check_joined, is_word, words_by_name
from oldornew.errors import NoReader
from oldornew.families import is_family
from oldornew.plain import is_pair
from oldornew.readers import is_full, is_some_reader, is_told, least_reader, reader_of, told_by
from oldornew.steady import turns_once, unlike_fields, words_along
from oldornew.walks import events


def row_by(chart, one, other, order):
    check_joined(chart, one, other)
    words = words_by_name(chart)
    return row_between(words[one], words[other], order)


def row_between(start, goal, order):
    """Return the row from one WORD to the other: the fields at which they are unlike
    change one behind another along the order."""
    unlike = unlike_fields(start, goal)
    return tuple(words_along(start, goal, [field for field in order if field in unlike]))


def showing_by(chart, order):
    """Return a dict: for each WORD that is shown, ascending, the ascending list of
    the EVENTS over 1 that show it."""
    words = words_by_name(chart)
    showing = {}
    for event in events(chart, 1):
        # A state by itself shows its row of one WORD.
        start, goal = words[event[0]], words[event[-1]]
        there, back = row_between(start, goal, order), row_between(goal, start, order)
        for word in sorted(set(there + back)):
            showing.setdefault(word, []).append(event)
    return {word: showing[word] for word in sorted(showing)}


def may_by(chart, order):
    """Return a dict: for each WORD that is shown, ascending, the states that are in
    all EVENTS over 1 that show it."""
    showing = showing_by(chart, order)
    return {word: in_each(showing[word]) for word in showing}


def shown_by(chart, order):
    return tuple(list(showing_by(chart, order)))


def has_right_by(chart, order):
    return is_full(may_by(chart, order))


def bar_by(chart, order):
    showing = showing_by(chart, order)
    for word in showing:
        if in_each(showing[word]) == ():
            # As no EVENT has more than two states, some two or three of them will do.
            barring = [*families_apart(showing[word], 2), *families_apart(showing[word], 3)]
            return word, barring[0]
    return None


def families_apart(known, many):
    """Return the ascending list of the tuples of so many of these EVENTS, ascending,
    that have no common state."""
    return [family for family in combinations(known, many) if in_each(family) == ()]


def is_bar_by(chart, order, thing):
    if not is_pair(thing):
        return False
    word, family = thing
    if not is_word(chart[0], word) or not is_family(chart, 1, family):
        return False
    showing = showing_by(chart, order).get(word, [])
    return all([event in showing for event in family])


def a_reader_by(chart, order):
    return least_reader(may_by(chart, order))


def is_reader_by(chart, order, thing):
    return is_some_reader(chart, thing) and is_told(may_by(chart, order), thing)


def rows_by(chart, order):
    """Return the list of the triples of two joined states, either of them first, and
    the row from the first one to the other."""
    words = words_by_name(chart)
    rows = []
    for one, other in chart[2]:
        rows.append((one, other, row_between(words[one], words[other], order)))
        rows.append((other, one, row_between(words[other], words[one], order)))
    return rows


def steady_told_by(chart, order):
    """Return a dict: what a READER that is steady by the order tells at each WORD
    that is shown; None if there is none."""
    may = may_by(chart, order)
    if not is_full(may):
        return None
    told = {word: may[word][0] for word in may}
    for one, other, row in rows_by(chart, order):
        telling = telling_along(may, one, other, row)
        if telling is None:
            return None
        # Where either state may be told, no other row comes by: each row has its own choice.
        for word, name in zip(row, telling):
            told[word] = name
    return told


def telling_along(may, one, other, row):
    """Return what a steady READER tells along the row from one to other, turning as
    late as can be; None if it must turn back."""
    telling = []
    turned = False
    for word in row:
        if turned and may[word] == (one,):
            return None
        turned = turned or may[word] == (other,)
        telling.append(other if turned else one)
    return telling


def has_steady_by(chart, order):
    return steady_told_by(chart, order) is not None


def a_steady_by(chart, order):
    told = steady_told_by(chart, order)
    if told is None:
        raise NoReader()
    return reader_of(told)


def is_steady_by(chart, order, thing):
    if not is_reader_by(chart, order, thing):
        return False
    told = told_by(thing)
    rows = rows_by(chart, order)
    return all([turns_once(tuple([told[word] for word in row]), one, other) for one, other, row in rows])


def all_orders(chart):
    fields = list(range(len(chart[0])))
    return list(permutations(fields))


def right_orders(chart):
    return tuple([order for order in all_orders(chart) if has_right_by(chart, order)])


def steady_orders(chart):
    return tuple([order for order in all_orders(chart) if has_steady_by(chart, order)])
