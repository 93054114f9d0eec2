"""Moves that can be put in, so that the CHART is still right over 1."""

from itertools import combinations

from oldornew.charts import is_move, names, with_move
from oldornew.errors import NoReader
from oldornew.plain import as_tuples, in_order, is_ascending
from oldornew.right import bar, is_right


def can_join(chart, one, other):
    return join_bar(chart, one, other) is None


def join_bar(chart, one, other):
    return bar(with_move(chart, one, other), 1)


def free_moves(chart):
    return tuple([move for move in unjoined_pairs(chart) if is_right_with(chart, (move,))])


def unjoined_pairs(chart):
    """Return the pairs of states, ascending, that are not joined."""
    everyone = list(names(chart))
    moves = as_tuples(chart[2])
    return [pair for pair in combinations(everyone, 2) if pair not in moves]


def is_right_with(chart, more):
    """Tell whether the CHART with these moves more is right."""
    sizes, states, moves = as_tuples(chart)
    return is_right((sizes, states, in_order((*moves, *more))), 1)


def clash(chart, move, other):
    return not is_right_with(chart, as_tuples((move, other)))


def clashes(chart):
    free = list(free_moves(chart))
    return [(move, other) for move, other in combinations(free, 2) if clash(chart, move, other)]


def most_joins(chart):
    if not is_right(chart, 1):
        return None
    return len(some_joins(chart))


def some_joins(chart):
    if not is_right(chart, 1):
        raise NoReader()
    free = list(free_moves(chart))
    for spare in range(len(free)):
        found = joins_of(chart, free, len(free) - spare)
        if found is not None:
            return found
    return ()


def joins_of(chart, free, many):
    """Return so many of the free moves that can be put in together; None if there are none."""
    for some in combinations(free, many):
        if is_right_with(chart, some):
            return some
    return None


def is_some_joins(chart, thing):
    if not isinstance(thing, tuple):
        return False
    known = {name: True for name in names(chart)}
    if not all([is_move(known, move) for move in thing]) or not is_ascending(thing):
        return False
    unjoined = unjoined_pairs(chart)
    if not all([move in unjoined for move in thing]):
        return False
    return len(thing) == most_joins(chart) and is_right_with(chart, thing)
