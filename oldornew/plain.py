"""The plain kinds of values that the other files are built on."""

LETTERS = "abcdefghijklmnopqrstuvwxyz"
LONGEST_NAME = 8


def as_tuples(value):
    """Return the value with a tuple in the place of each list, at any depth."""
    if isinstance(value, (list, tuple)):
        return tuple([as_tuples(item) for item in value])
    return value


def is_number(thing):
    # Python counts True and False among the ints; the document does not.
    return isinstance(thing, int) and not isinstance(thing, bool)


def is_name(thing):
    if not isinstance(thing, str) or not 1 <= len(thing) <= LONGEST_NAME:
        return False
    return all([letter in LETTERS for letter in thing])


def is_pair(thing):
    return isinstance(thing, tuple) and len(thing) == 2


def is_ascending(things):
    """Tell whether things of one kind ascend, none of them twice."""
    return all([one < other for one, other in zip(things, things[1:])])


def in_order(things):
    """Return the set of these things of one kind, of which none stands twice."""
    return tuple(sorted(things))
