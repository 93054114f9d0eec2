"""Looks of any length: LUMPS, their SIDES, and the fields that part them."""

from itertools import combinations

from oldornew.boxes import box_of, is_in_box
from oldornew.charts import is_forest, moves_from, names, parts, without_state
from oldornew.plain import as_tuples, in_order


def lumps(chart):
    return tuple(sorted(set([lump_of(chart, move) for move in as_tuples(chart[2])])))


def lump_of(chart, move):
    """Return the LUMP of the move.

    A state is in it exactly if no other state stands between it and the move: if
    any other one is taken away, moves still lead to it from an end of the move.
    """
    lump = list(names(chart))
    for gone in names(chart):
        left = [end for end in move if end != gone]
        reached = moves_from(without_state(chart, gone), left[0])
        lump = [name for name in lump if name == gone or name in reached]
    return tuple(lump)


def sides(chart, lump):
    loose = without_moves_within(chart, lump)
    return tuple([in_order(list(moves_from(loose, name))) for name in lump])


def without_moves_within(chart, some):
    """Return the CHART without the moves between two of these states."""
    sizes, states, moves = as_tuples(chart)
    return sizes, states, tuple([(one, other) for one, other in moves if one not in some or other not in some])


def fields_apart(chart, lots):
    """Return the fields at which no value is that of states of two of these sets."""
    boxes = [box_of(chart, some) for some in lots]
    together = box_of(chart, [name for some in lots for name in some])
    # A value that two sets share is counted twice on the left side.
    return tuple([
        field for field, column in enumerate(together)
        if sum([len(box[field]) for box in boxes]) == len(column)
    ])


def side_fields(chart, lump):
    return fields_apart(chart, sides(chart, lump))


def is_always_right(chart):
    return unparted_lump(chart) is None and unparted_parts(chart) is None


def unparted_lump(chart):
    for lump in lumps(chart):
        if side_fields(chart, lump) == ():
            return lump
    return None


def unparted_parts(chart):
    apart = list(parts(chart))
    for pair in combinations(apart, 2):
        if fields_apart(chart, pair) == ():
            return pair
    return None


def always_told(chart, word):
    if not is_shown_by_part(chart, word):
        return None
    return tuple([name for name in names(chart) if not is_shown_by_part(without_state(chart, name), word)])


def is_shown_by_part(chart, word):
    """Tell whether the BOX of some EVENT, over whatever number, has this WORD.

    A part is the greatest EVENT of its states, so the BOXES of the others lie in its BOX.
    """
    return any([is_in_box(chart, part, tuple(word)) for part in parts(chart)])


def thermometer(chart):
    if not is_forest(chart):
        return None
    columns = [*move_columns(chart), *part_columns(chart)]
    if len(columns) == 0:
        columns.append({name: 0 for name in names(chart)})
    states = [(name, tuple([column[name] for column in columns])) for name in names(chart)]
    return (2,) * len(columns), tuple(states), as_tuples(chart[2])


def move_columns(chart):
    """Return, for each move, a dict: 1 for the states of the SIDE of its second state, else 0."""
    columns = []
    for move in chart[2]:
        _, side = sides(chart, move)
        columns.append({name: 1 if name in side else 0 for name in names(chart)})
    return columns


def part_columns(chart):
    """Return, for each binary digit of the number of the part, a dict: the digit of each state."""
    apart = parts(chart)
    number = {name: at for at, part in enumerate(apart) for name in part}
    digits = (len(apart) - 1).bit_length()
    return [{name: number[name] >> digit & 1 for name in number} for digit in reversed(range(digits))]


def ring_right(number, long):
    return number > 3 * long


def ring_longest(number):
    return (number - 1) // 3
