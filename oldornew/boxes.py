"""BOXES: the WORDS that have at each field the value of some of several states."""

from oldornew.charts import check_names, names, words_by_name
from oldornew.errors import NoNumber
from oldornew.plain import is_number


def box_of(chart, some):
    """Return the values of the BOX, for each field an ascending tuple.

    A BOX can have far too many WORDS to be listed, so it is kept by its fields.
    """
    check_names(chart, some)
    words = words_by_name(chart)
    return columns_of([words[name] for name in some])


def columns_of(rows):
    """Return, for each field, the ascending values that stand there in these WORDS."""
    return [tuple(sorted(set(column))) for column in zip(*rows)]


def common_box(chart, lots):
    """Return, for each field, the values that stand in all BOXES of lots."""
    boxes = [box_of(chart, some) for some in lots]
    return [in_each(columns) for columns in zip(*boxes)]


def in_each(columns):
    """Return the values of the first column that stand in all of them, too."""
    return tuple([value for value in columns[0] if all([value in column for column in columns])])


def how_many_rows(columns):
    """Return in how many ways one value of each column can be taken."""
    many = 1
    for column in columns:
        many = many * len(column)
    return many


def values_at(chart, some, field):
    columns = box_of(chart, some)
    if not 0 <= field < len(columns):
        raise NoNumber(field)
    return columns[field]


def how_many_words(chart, some):
    return how_many_rows(box_of(chart, some))


def is_in_box(chart, some, thing):
    columns = box_of(chart, some)
    if not isinstance(thing, tuple) or len(thing) != len(columns):
        return False
    return all([is_number(value) and value in column for value, column in zip(thing, columns)])


def nth_word(chart, some, number):
    columns = box_of(chart, some)
    if not 0 <= number < how_many_rows(columns):
        raise NoNumber(number)
    word = []
    rest = number
    # The last field changes fastest.
    for column in reversed(columns):
        rest, place = divmod(rest, len(column))
        word.append(column[place])
    return tuple(word[::-1])


def number_of_word(chart, some, word):
    number = 0
    for column, value in zip(box_of(chart, some), word):
        if value not in column:
            return None
        number = number * len(column) + column.index(value)
    return number


def in_all(chart, lots):
    for some in lots:
        check_names(chart, some)
    return tuple([name for name in names(chart) if all([name in some for some in lots])])


def common_word(chart, lots):
    columns = common_box(chart, lots)
    if how_many_rows(columns) == 0:
        return None
    return tuple([column[0] for column in columns])


def how_many_common(chart, lots):
    return how_many_rows(common_box(chart, lots))


def parting_fields(chart, lots):
    columns = common_box(chart, lots)
    return tuple([field for field, column in enumerate(columns) if len(column) == 0])


def are_parted(chart, lots):
    return len(parting_fields(chart, lots)) > 0
