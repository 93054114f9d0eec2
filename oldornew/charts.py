"""CHARTS: states with their WORDS, and the moves between them."""

from oldornew.errors import NoName, NotJoined, Twice
from oldornew.plain import as_tuples, in_order, is_ascending, is_name, is_number, is_pair


def is_chart(thing):
    if not isinstance(thing, tuple) or len(thing) != 3:
        return False
    sizes, states, moves = thing
    return is_sizes(sizes) and is_states(sizes, states) and is_moves(states, moves)


def is_sizes(thing):
    if not isinstance(thing, tuple) or len(thing) == 0:
        return False
    return all([is_number(size) and size >= 2 for size in thing])


def is_word(sizes, thing):
    """Tell whether thing is a WORD of these SIZES."""
    if not isinstance(thing, tuple) or len(thing) != len(sizes):
        return False
    return all([is_number(value) and 0 <= value < size for value, size in zip(thing, sizes)])


def is_states(sizes, thing):
    if not isinstance(thing, tuple) or len(thing) == 0:
        return False
    if not all([is_pair(state) and is_name(state[0]) for state in thing]):
        return False
    if not all([is_word(sizes, word) for name, word in thing]):
        return False
    return is_ascending([name for name, word in thing])


def is_moves(states, thing):
    """Tell whether thing is a set of moves of these states."""
    if not isinstance(thing, tuple):
        return False
    known = {name: True for name, word in states}
    return all([is_move(known, move) for move in thing]) and is_ascending(thing)


def is_move(known, thing):
    """Tell whether thing can be a move of the states that are keys of known."""
    if not is_pair(thing) or not is_name(thing[0]) or not is_name(thing[1]):
        return False
    one, other = thing
    return one in known and other in known and one < other


def names(chart):
    return tuple([state[0] for state in chart[1]])


def check_names(chart, wanted):
    """Raise NoName for the first of the wanted NAMES that is no state."""
    known = names(chart)
    for name in wanted:
        if name not in known:
            raise NoName(name)


def words_by_name(chart):
    """Return a dict: the WORD of each state."""
    return {name: word for name, word in as_tuples(chart[1])}


def near_by_name(chart):
    """Return a dict: for each state the ascending list of those joined with it."""
    near = {name: [] for name in names(chart)}
    for one, other in chart[2]:
        near[one].append(other)
        near[other].append(one)
    return {name: sorted(near[name]) for name in near}


def word_of(chart, name):
    check_names(chart, (name,))
    return words_by_name(chart)[name]


def is_joined(chart, one, other):
    check_names(chart, (one, other))
    return other in near_by_name(chart)[one]


def check_joined(chart, one, other):
    """Raise NoName for the first one that is no state, then NotJoined."""
    if not is_joined(chart, one, other):
        raise NotJoined(one, other)


def neighbours(chart, name):
    check_names(chart, (name,))
    return tuple(near_by_name(chart)[name])


def with_state(chart, name, word):
    if name in names(chart):
        raise Twice(name)
    sizes, states, moves = as_tuples(chart)
    return sizes, in_order((*states, (name, as_tuples(word)))), moves


def without_state(chart, name):
    check_names(chart, (name,))
    sizes, states, moves = as_tuples(chart)
    kept = tuple([state for state in states if state[0] != name])
    return sizes, kept, tuple([move for move in moves if name not in move])


def with_move(chart, one, other):
    sizes, states, moves = without_move(chart, one, other)
    return sizes, states, in_order((*moves, in_order((one, other))))


def without_move(chart, one, other):
    check_names(chart, (one, other))
    sizes, states, moves = as_tuples(chart)
    dropped = in_order((one, other))
    return sizes, states, tuple([move for move in moves if move != dropped])


def renamed_chart(chart, pairs):
    sizes, states, moves = as_tuples(chart)
    fresh = {name: name for name in names(chart)}
    for old, new in pairs:
        fresh[old] = new
    renamed = [(fresh[name], word) for name, word in states]
    led = [in_order((fresh[one], fresh[other])) for one, other in moves]
    return sizes, in_order(renamed), in_order(led)


def with_field(chart, size, values):
    sizes, states, moves = as_tuples(chart)
    grown = [(name, (*word, value)) for (name, word), value in zip(states, values)]
    return (*sizes, size), tuple(grown), moves


def without_field(chart, field):
    sizes, states, moves = as_tuples(chart)
    cut = [(name, without_item(word, field)) for name, word in states]
    return without_item(sizes, field), tuple(cut), moves


def without_item(row, place):
    return row[:place] + row[place + 1:]


def moves_from(chart, start):
    """Return a dict: with how few moves each state is reached from start."""
    near = near_by_name(chart)
    apart = {start: 0}
    queue = [start]
    at = 0
    while at < len(queue):
        here = queue[at]
        at += 1
        for there in near[here]:
            if there not in apart:
                apart[there] = apart[here] + 1
                queue.append(there)
    return apart


def parts(chart):
    found = []
    placed = {}
    for name in names(chart):
        if name not in placed:
            part = in_order(list(moves_from(chart, name)))
            found.append(part)
            for member in part:
                placed[member] = True
    return in_order(found)


def is_forest(chart):
    # Put in one by one, a move makes one part of two, unless it leads round.
    return len(chart[2]) == len(chart[1]) - len(parts(chart))
