"""What the tests share: calls made in all the ways that the document allows."""

import copy
import random
import unittest
from importlib import import_module
from itertools import combinations, product

# The interface of the document: file, function, names of its arguments.
INTERFACE = {
    "charts": {
        "is_chart": "thing",
        "names": "chart",
        "word_of": "chart name",
        "is_joined": "chart one other",
        "neighbours": "chart name",
        "with_state": "chart name word",
        "without_state": "chart name",
        "with_move": "chart one other",
        "without_move": "chart one other",
        "renamed_chart": "chart pairs",
        "with_field": "chart size values",
        "without_field": "chart field",
        "parts": "chart",
        "is_forest": "chart",
    },
    "walks": {
        "is_walk": "chart thing",
        "how_many_walks": "chart one other many",
        "moves_apart": "chart one other",
        "shortest_walk": "chart one other",
        "events": "chart long",
        "is_event": "chart long thing",
        "events_with": "chart long some",
        "walk_of": "chart long some",
    },
    "boxes": {
        "values_at": "chart some field",
        "how_many_words": "chart some",
        "is_in_box": "chart some thing",
        "nth_word": "chart some number",
        "number_of_word": "chart some word",
        "in_all": "chart lots",
        "common_word": "chart lots",
        "how_many_common": "chart lots",
        "parting_fields": "chart lots",
        "are_parted": "chart lots",
    },
    "right": {
        "is_right": "chart long",
        "longest_look": "chart",
        "bar": "chart long",
        "is_bar": "chart long thing",
        "unparted_pairs": "chart long",
        "unparted_threes": "chart",
        "events_at": "chart long word",
    },
    "readers": {
        "met_words": "chart long",
        "may_tell": "chart long word",
        "a_reader": "chart long",
        "is_reader": "chart long thing",
        "tells": "reader word",
        "wrongly_told": "chart long reader",
    },
    "steady": {
        "a_steady": "chart",
        "is_steady": "chart thing",
        "told_along": "chart reader one other order",
        "flicker": "chart reader",
        "is_flicker": "chart reader thing",
        "must_tell": "chart one other",
        "can_be_steady": "chart kept",
        "steady_with": "chart kept",
        "how_many_steady": "chart",
        "fewest_to_mend": "chart reader",
        "mended": "chart reader",
    },
    "bits": {
        "to_part": "chart long",
        "has_bits": "chart long",
        "meeting_family": "chart long",
        "is_meeting_family": "chart long thing",
        "is_cut_list": "chart long thing",
        "bits_by": "chart cuts",
        "fewest_cuts": "chart long",
        "some_cuts": "chart long",
    },
    "trees": {
        "lumps": "chart",
        "sides": "chart lump",
        "side_fields": "chart lump",
        "is_always_right": "chart",
        "unparted_lump": "chart",
        "unparted_parts": "chart",
        "always_told": "chart word",
        "thermometer": "chart",
        "ring_right": "number long",
        "ring_longest": "number",
    },
    "counters": {
        "reflected_word": "sizes number",
        "reflected_number": "sizes word",
        "reflected_step": "sizes number",
        "shifted_word": "bits number",
        "shifted_number": "bits word",
        "shifted_longest": "bits",
        "reflected_chart": "sizes wanted",
        "shifted_chart": "bits wanted",
    },
    "counts": {
        "how_many_met": "chart long",
        "how_many_barred": "chart long",
        "how_many_may": "chart long name",
        "how_many_must": "chart long name",
        "how_many_lonely": "chart",
        "is_lonely": "chart word",
        "how_many_readers": "chart long",
        "nth_reader": "chart long number",
        "number_of_reader": "chart long reader",
    },
    "joins": {
        "can_join": "chart one other",
        "join_bar": "chart one other",
        "free_moves": "chart",
        "clash": "chart move other",
        "clashes": "chart",
        "most_joins": "chart",
        "some_joins": "chart",
        "is_some_joins": "chart thing",
    },
    "orders": {
        "row_by": "chart one other order",
        "shown_by": "chart order",
        "has_right_by": "chart order",
        "bar_by": "chart order",
        "is_bar_by": "chart order thing",
        "a_reader_by": "chart order",
        "is_reader_by": "chart order thing",
        "has_steady_by": "chart order",
        "a_steady_by": "chart order",
        "is_steady_by": "chart order thing",
        "right_orders": "chart",
        "steady_orders": "chart",
    },
    # A class alone: METHODS tells what it has.
    "board": {},
    "texts": {
        "word_text": "word",
        "walk_text": "walk",
        "lots_text": "lots",
        "chart_text": "chart",
        "chart_read": "text",
        "reader_text": "reader",
        "reader_read": "text",
        "word_read": "text",
        "walk_read": "text",
        "lots_read": "text",
    },
    "desk": {
        "is_request": "thing",
        "replies": "chart name text",
    },
}
# The methods of the class Board, and the names of their arguments.
METHODS = {
    "chart": "",
    "word": "",
    "ends": "",
    "is_at_rest": "",
    "fields_left": "",
    "start": "name",
    "change": "field",
    "finish": "",
    "look": "reader",
    "fits": "reader",
    "undo": "",
    "deeds": "",
    "twin": "",
}
FILE_OF = {name: file for file, functions in INTERFACE.items() for name in functions}


def function_called(name):
    return getattr(import_module("oldornew." + FILE_OF[name]), name)


def parameters_of(name):
    return INTERFACE[FILE_OF[name]][name].split()


def lists(value):
    """The value with a list in the place of each tuple, at any depth."""
    if isinstance(value, (list, tuple)):
        return [lists(item) for item in value]
    return value


def tuples(value):
    if isinstance(value, (list, tuple)):
        return tuple(tuples(item) for item in value)
    return value


def by_turns(value, as_list):
    """The value with lists and tuples by turns, from the outside inwards."""
    if isinstance(value, (list, tuple)):
        return (list if as_list else tuple)(by_turns(item, not as_list) for item in value)
    return value


def forms_of(name, args):
    """The arguments as handed in, and in the other forms that mean the same."""
    changes = (
        lambda value: value,
        tuples,
        lists,
        lambda value: by_turns(value, True),
        lambda value: by_turns(value, False),
    )
    labels = parameters_of(name)
    for change in changes:
        yield [arg if label == "thing" else change(arg) for label, arg in zip(labels, args)]


def outcome(function, args, more):
    """What a call comes to, as text, in which 1 and True, [] and () are unlike."""
    try:
        return repr(function(*args, **more)), None
    except (LookupError, ValueError) as error:
        return None, (error.__class__, repr(vars(error)))


class Checks(unittest.TestCase):
    """Calls by the name of the function, in all forms, with what must come of them."""

    def outcome(self, name, args):
        function, labels = function_called(name), parameters_of(name)
        self.assertEqual(len(args), len(labels), "wrong test")
        found = []
        for form in forms_of(name, args):
            for more in ({}, dict(zip(labels, form))):
                given = [] if more else form
                before = repr((given, more))
                found.append(outcome(function, given, more))
                found.append(outcome(function, copy.deepcopy(given), copy.deepcopy(more)))
                self.assertEqual(repr((given, more)), before, name + " changed its arguments")
        for other in found[1:]:
            self.assertEqual(other, found[0], f"{name}{args}")
        return found[0]

    def is_new(self, name, *args):
        """Each returned list is the caller's own: what is done to it stays without effect."""
        first, text = function_called(name)(*args), self.outcome(name, args)[0]
        self.assertIsInstance(first, list)
        self.assertIsNot(function_called(name)(*args), first)
        first.append("more")
        self.assertEqual(self.outcome(name, args)[0], text)

    def gives(self, expected, name, *args):
        """The call returns what is expected, in kind and in value."""
        text, error = self.outcome(name, args)
        self.assertIsNone(error, f"{name}{args}")
        self.assertEqual(text, repr(expected), f"{name}{args}")

    def result(self, name, *args):
        """What the call returns, where the document leaves a choice."""
        text, error = self.outcome(name, args)
        self.assertIsNone(error, f"{name}{args}")
        return function_called(name)(*args)

    def fails(self, error_name, kept, name, *args):
        """The call raises this error of the package, which keeps these values."""
        error_class = getattr(import_module("oldornew.errors"), error_name)
        text, error = self.outcome(name, args)
        self.assertIsNone(text, f"{name}{args}")
        self.assertIs(error[0], error_class)
        with self.assertRaises(error_class) as caught:
            function_called(name)(*args)
        for label, value in kept.items():
            self.assertEqual(repr(getattr(caught.exception, label)), repr(value))


SQUARE = (
    (2, 2),
    (("a", (0, 0)), ("b", (0, 1)), ("c", (1, 1)), ("d", (1, 0))),
    (("a", "b"), ("a", "d"), ("b", "c"), ("c", "d")),
)
ALONE = ((2,), (("a", (1,)),), ())
# Two parts, a ring of three with a tail, and a state by itself.
KITE = (
    (3, 2),
    (("a", (0, 0)), ("b", (1, 0)), ("c", (2, 0)), ("d", (2, 1)), ("e", (1, 0))),
    (("a", "b"), ("a", "c"), ("b", "c"), ("c", "d")),
)
HUGE = 10 ** 40
LETTERS = "abcdefghijklmnopqrstuvwxyz"

# Values of all the kinds that a thing may be of.
DEEP = ()
for _ in range(11):
    DEEP = (DEEP,)
PLAIN_THINGS = (
    0, 1, 2, -1, HUGE, -HUGE, 10 ** 500, True, False, None, "", "a", "ab", "A", "a b", "abcdefghi", "\n",
    [], (), [0], (0,), (True,), (None,), ("",), ([],), ((),), [()], [["a"]], DEEP, (1, "a", None, (True, [2])),
    (("a", "b"), 1), ("a", 1), (1, "a"), (("a",), ("b",)), ((2, 2), (), ()), ["a", "b"], ("b", "a"), ("a", "a"),
)


def ring(many):
    """A CHART of one field: a ring of so many states, each joined with the next one."""
    states = tuple((LETTERS[place], (place,)) for place in range(many))
    moves = [(LETTERS[place], LETTERS[place + 1]) for place in range(many - 1)]
    return (many,), states, tuple(sorted([*moves, (LETTERS[0], LETTERS[many - 1])]))


def great_chart():
    """20 states, all joined, 20 fields of a size of 41 digits, all values unlike."""
    named = LETTERS[:20]
    states = tuple((name, tuple(great_value(at, field) for field in range(20))) for at, name in enumerate(named))
    return (HUGE,) * 20, states, tuple(combinations(named, 2))


def great_value(at, field):
    # The states stand in another order at each second field.
    step = at if field % 2 == 0 else 19 - at
    return step * 10 ** 38 + field


def small_charts():
    """All sets of moves of four states, each with some WORDS of two fields."""
    pairs = list(combinations("abcd", 2))
    words = list(product(range(2), range(3)))
    for chosen in range(2 ** len(pairs)):
        moves = tuple(pair for bit, pair in enumerate(pairs) if chosen >> bit & 1)
        states = tuple((name, words[(chosen // 6 ** at + at) % 6]) for at, name in enumerate("abcd"))
        yield (2, 3), states, moves


def drawn_chart(draw, many, sizes, moves):
    """A CHART of so many states, with drawn WORDS and at most so many drawn moves."""
    everyone = LETTERS[:many]
    pairs = list(combinations(everyone, 2))
    chosen = draw.sample(pairs, min(moves, len(pairs)))
    states = tuple((name, tuple(draw.randrange(size) for size in sizes)) for name in everyone)
    return tuple(sizes), states, tuple(sorted(chosen))


def drawn_charts(seed, charts, states=4, sizes=(2, 3), moves=4):
    """So many drawn CHARTS, each time the same ones; each has at most so many states and moves."""
    draw = random.Random(seed)
    for _ in range(charts):
        yield drawn_chart(draw, draw.randint(1, states), sizes, draw.randint(0, moves))


def sets_of(things, least):
    """All sets of at least so many of these things, as ascending tuples."""
    things = sorted(things)
    return [some for many in range(least, len(things) + 1) for some in combinations(things, many)]
