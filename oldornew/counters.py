"""Counters: REFLECTED and SHIFTED codes, and the CHARTS that they make."""

from oldornew.errors import NoNumber
from oldornew.plain import as_tuples, in_order
from oldornew.trees import ring_longest


def how_many_numbers(sizes):
    """Return the product of the SIZES."""
    many = 1
    for size in sizes:
        many = many * size
    return many


def turned(value, many, rest):
    """Return the number among so many that stands at this place behind this value.

    Behind an odd value the others run backwards.
    """
    return many - 1 - rest if value & 1 else rest


def reflected_word(sizes, number):
    many = how_many_numbers(sizes)
    if not 0 <= number < many:
        raise NoNumber(number)
    word = []
    rest = number
    for size in sizes:
        many = many // size
        value, rest = divmod(rest, many)
        word.append(value)
        rest = turned(value, many, rest)
    return tuple(word)


def reflected_number(sizes, word):
    many = 1
    number = 0
    for size, value in reversed(list(zip(sizes, word))):
        number = value * many + turned(value, many, number)
        many = many * size
    return number


def reflected_step(sizes, number):
    if not 0 <= number < how_many_numbers(sizes) - 1:
        raise NoNumber(number)
    here = reflected_word(sizes, number)
    there = reflected_word(sizes, number + 1)
    changes = [other - one for one, other in zip(here, there)]
    # Just one field changes.
    change = sum(changes)
    return changes.index(change), change


def shifted_word(bits, number):
    if not 0 <= number < 2 * bits:
        raise NoNumber(number)
    if number <= bits:
        return (1,) * number + (0,) * (bits - number)
    return (0,) * (number - bits) + (1,) * (2 * bits - number)


def shifted_number(bits, word):
    for number in range(2 * bits):
        if shifted_word(bits, number) == tuple(word):
            return number
    return None


def shifted_longest(bits):
    return ring_longest(2 * bits)


def row_of_moves(wanted):
    """Return the moves between each two neighbours among these NAMES."""
    return list(zip(wanted, wanted[1:]))


def reflected_chart(sizes, wanted):
    states = [(name, reflected_word(sizes, number)) for number, name in enumerate(wanted)]
    return as_tuples(sizes), tuple(states), tuple(row_of_moves(wanted))


def shifted_chart(bits, wanted):
    states = [(name, shifted_word(bits, number)) for number, name in enumerate(wanted)]
    return (2,) * bits, tuple(states), in_order([*row_of_moves(wanted), (wanted[0], wanted[-1])])
