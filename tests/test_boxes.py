"""BOXES, point [6]."""

import unittest
from itertools import product

from tests.helping import ALONE, HUGE, KITE, LETTERS, PLAIN_THINGS, SQUARE, Checks
from tests.helping import great_chart, great_value, lists, sets_of, small_charts

# Fields of a few values, far apart: two states share one, a size has 41 digits.
APART = (
    (HUGE, 9, 2),
    (("a", (HUGE - 1, 3, 0)), ("b", (7, 8, 0)), ("c", (7, 3, 1)), ("d", (0, 5, 1))),
    (),
)


def named(chart):
    return [name for name, _ in chart[1]]


def values_of(chart, some, field):
    return {word[field] for name, word in chart[1] if name in some}


def box(chart, some):
    """All WORDS of the BOX, ascending, found by putting them together."""
    return sorted(product(*(sorted(values_of(chart, some, field)) for field in range(len(chart[0])))))


def charts_to_try():
    return [ALONE, SQUARE, KITE, APART, *list(small_charts())[::16]]


class TestExamples(Checks):
    def test_one_box(self):
        self.gives((0, 1), "values_at", SQUARE, ("a", "b"), 1)
        self.gives((0,), "values_at", SQUARE, ("a", "b"), 0)
        self.gives(4, "how_many_words", SQUARE, ("a", "c"))
        self.gives(True, "is_in_box", SQUARE, ("a", "b", "c"), (1, 0))
        self.gives(False, "is_in_box", SQUARE, ("a", "b"), (1, 0))
        self.gives((1, 0), "nth_word", SQUARE, ("a", "c"), 2)
        self.gives(1, "number_of_word", SQUARE, ("a", "b"), (0, 1))
        self.gives(None, "number_of_word", SQUARE, ("a", "b"), (1, 1))

    def test_several_boxes(self):
        self.gives((1, 0), "common_word", SQUARE, (("a", "b", "c"), ("d",)))
        self.gives(None, "common_word", SQUARE, (("a", "b"), ("c", "d")))
        self.gives((0,), "parting_fields", SQUARE, (("a", "b"), ("c", "d")))
        self.gives(False, "are_parted", SQUARE, (("a", "c"), ("d",)))
        self.gives(2, "how_many_common", SQUARE, (("a", "c"), ("a", "b")))
        self.gives(("a",), "in_all", SQUARE, (("a", "b"), ("a", "d"), ("a",)))

    def test_errors(self):
        self.fails("NoNumber", {"number": 2}, "nth_word", SQUARE, ("a", "b"), 2)
        self.fails("NoName", {"name": "x"}, "how_many_words", SQUARE, ("a", "x"))


class TestValuesAt(Checks):
    def test_each_field(self):
        for chart in charts_to_try():
            for some in sets_of(named(chart), 1):
                for field in range(len(chart[0])):
                    right = tuple(sorted(values_of(chart, some, field)))
                    self.gives(right, "values_at", chart, some, field)

    def test_no_such_field(self):
        for chart in (ALONE, SQUARE, APART):
            for field in (-1, -2, -3, len(chart[0]), len(chart[0]) + 1, HUGE, -HUGE):
                self.fails("NoNumber", {"number": field}, "values_at", chart, ("a",), field)

    def test_the_name_is_looked_for_first(self):
        self.fails("NoName", {"name": "x"}, "values_at", SQUARE, ("a", "x"), 2)
        self.fails("NoName", {"name": "x"}, "values_at", SQUARE, ("x",), -1)
        self.fails("NoName", {"name": "bb"}, "values_at", SQUARE, ("a", "bb", "x"), 0)

    def test_great_chart(self):
        chart, everyone = great_chart(), tuple(LETTERS[:20])
        self.gives(tuple(great_value(at, 0) for at in range(20)), "values_at", chart, everyone, 0)
        self.gives(tuple(great_value(19 - at, 19) for at in range(20)), "values_at", chart, everyone, 19)
        self.gives((great_value(0, 2), great_value(19, 2)), "values_at", chart, ("a", "t"), 2)
        self.fails("NoNumber", {"number": 20}, "values_at", chart, everyone, 20)
        self.fails("NoNumber", {"number": -1}, "values_at", chart, everyone, -1)


class TestNumberedWords(Checks):
    def test_each_word(self):
        for chart in charts_to_try():
            for some in sets_of(named(chart), 1):
                words = box(chart, some)
                self.gives(len(words), "how_many_words", chart, some)
                for number, word in enumerate(words):
                    self.gives(word, "nth_word", chart, some, number)
                    self.gives(number, "number_of_word", chart, some, word)

    def test_no_such_number(self):
        for chart in (ALONE, SQUARE, APART):
            for some in sets_of(named(chart), 1):
                many = len(box(chart, some))
                for number in (-1, -many, many, many + 1, HUGE, -HUGE):
                    self.fails("NoNumber", {"number": number}, "nth_word", chart, some, number)

    def test_words_beside_the_box(self):
        for chart in (SQUARE, KITE, *list(small_charts())[::16]):
            for some in sets_of(named(chart), 1):
                words = box(chart, some)
                for word in product(*map(range, chart[0])):
                    right = words.index(word) if word in words else None
                    self.gives(right, "number_of_word", chart, some, word)
        self.gives(None, "number_of_word", APART, ("a", "b"), (HUGE - 2, 3, 0))
        self.gives(None, "number_of_word", APART, ("a", "b"), (7, 3, 1))
        self.gives(None, "number_of_word", APART, ("a",), (7, 8, 1))

    def test_no_such_state(self):
        for some, name in ((("x",), "x"), (("a", "x", "y"), "x"), (("a", "aa", "x"), "aa")):
            self.fails("NoName", {"name": name}, "how_many_words", SQUARE, some)
            for number in (0, 1, -1, 100):
                self.fails("NoName", {"name": name}, "nth_word", SQUARE, some, number)
            self.fails("NoName", {"name": name}, "number_of_word", SQUARE, some, (0, 0))
            self.fails("NoName", {"name": name}, "number_of_word", SQUARE, some, (1, 1))

    def test_more_words_than_can_be_listed(self):
        chart, everyone = great_chart(), tuple(LETTERS[:20])
        many = 20 ** 20
        self.gives(many, "how_many_words", chart, everyone)
        least = tuple(great_value(0 if field % 2 == 0 else 19, field) for field in range(20))
        greatest = tuple(great_value(19 if field % 2 == 0 else 0, field) for field in range(20))
        self.gives(tuple(min(great_value(at, field) for at in range(20)) for field in range(20)),
                   "nth_word", chart, everyone, 0)
        self.gives(least, "nth_word", chart, everyone, 0)
        self.gives(greatest, "nth_word", chart, everyone, many - 1)
        self.fails("NoNumber", {"number": many}, "nth_word", chart, everyone, many)
        self.fails("NoNumber", {"number": -1}, "nth_word", chart, everyone, -1)
        for number in (0, 1, 19, 20, 21, 7 ** 29, many // 3, many - 20, many - 1):
            word = self.result("nth_word", chart, everyone, number)
            self.gives(number, "number_of_word", chart, everyone, word)
        two = self.result("nth_word", chart, ("a", "t"), 2 ** 20 - 2)
        self.assertEqual(two, greatest[:19] + least[19:])


class TestIsInBox(Checks):
    def test_each_word(self):
        for chart in (ALONE, SQUARE, KITE, *list(small_charts())[::8]):
            for some in sets_of(named(chart), 1):
                words = box(chart, some)
                for word in product(*map(range, chart[0])):
                    self.gives(word in words, "is_in_box", chart, some, word)

    def test_things_of_all_kinds(self):
        for thing in PLAIN_THINGS:
            with self.subTest(repr(thing)[:60]):
                self.gives(False, "is_in_box", SQUARE, ("a", "b", "c", "d"), thing)
                self.gives(False, "is_in_box", SQUARE, ("a", "b", "c", "d"), (thing, 0, 0))
                good = isinstance(thing, int) and not isinstance(thing, bool) and thing in (0, 1)
                self.gives(good, "is_in_box", SQUARE, ("a", "b", "c", "d"), (thing, 0))
                self.gives(good, "is_in_box", SQUARE, ("a", "b", "c", "d"), (1, thing))

    def test_no_words(self):
        everyone = ("a", "b", "c", "d")
        for thing in ((), (0,), (0, 0, 0), [0, 0], (0, [0]), ((0, 0),), (0, 2), (-1, 0), (0, -1), (True, False)):
            self.gives(False, "is_in_box", SQUARE, everyone, thing)
        self.gives(True, "is_in_box", ALONE, ("a",), (1,))
        for thing in ((True,), 1, (0,), [1], (1, 1), ()):
            self.gives(False, "is_in_box", ALONE, ("a",), thing)

    def test_errors_are_raised_whatever_the_thing_is(self):
        for thing in PLAIN_THINGS:
            self.fails("NoName", {"name": "x"}, "is_in_box", SQUARE, ("a", "x"), thing)
        self.fails("NoName", {"name": "x"}, "is_in_box", SQUARE, ("x", "y"), (0, 0))
        self.fails("NoName", {"name": "bb"}, "is_in_box", SQUARE, ("b", "bb", "x"), (0, 0))

    def test_great_chart(self):
        chart, everyone = great_chart(), tuple(LETTERS[:20])
        word = tuple(great_value(field, field) for field in range(20))
        self.gives(True, "is_in_box", chart, everyone, word)
        self.gives(False, "is_in_box", chart, everyone, word[:19] + (word[19] + 1,))
        self.gives(False, "is_in_box", chart, everyone, word[:19])
        self.gives(False, "is_in_box", chart, everyone[:19], word)


class TestSeveralBoxes(Checks):
    def check(self, chart, lots):
        boxes = [set(box(chart, some)) for some in lots]
        common = set.intersection(*boxes)
        everyone = [name for name in named(chart) if all(name in some for some in lots)]
        values = [[values_of(chart, some, field) for some in lots] for field in range(len(chart[0]))]
        parting = tuple(field for field, sets in enumerate(values) if not set.intersection(*sets))
        self.gives(tuple(everyone), "in_all", chart, lots)
        self.gives(min(common, default=None), "common_word", chart, lots)
        self.gives(len(common), "how_many_common", chart, lots)
        self.gives(parting, "parting_fields", chart, lots)
        self.gives(parting != (), "are_parted", chart, lots)
        # The document's guarantee.
        self.assertEqual(parting == (), len(common) > 0)

    def test_one_set(self):
        for chart in charts_to_try():
            for some in sets_of(named(chart), 1):
                self.check(chart, (some,))

    def test_two_sets(self):
        for chart in (ALONE, SQUARE, APART, *list(small_charts())[::32]):
            for lots in product(sets_of(named(chart), 1), repeat=2):
                self.check(chart, lots)

    def test_three_sets_and_more(self):
        for chart in (SQUARE, KITE, APART):
            some_sets = sets_of(named(chart), 1)[::4]
            for lots in list(product(some_sets, repeat=3))[::3]:
                self.check(chart, lots)
        self.check(KITE, (("a", "b", "c"), ("a", "d"), ("b", "c", "e"), ("a", "b", "c", "d", "e")))
        self.check(SQUARE, (("a", "c"), ("a", "c"), ("b", "d"), ("a", "c"), ("d",)))

    def test_parted_all_three_but_no_two_of_them(self):
        chart = ((3,), (("a", (0,)), ("b", (1,)), ("c", (2,))), ())
        lots = (("a", "b"), ("a", "c"), ("b", "c"))
        self.gives((0,), "parting_fields", chart, lots)
        self.gives(None, "common_word", chart, lots)
        self.gives(0, "how_many_common", chart, lots)
        self.gives((), "in_all", chart, lots)
        for two in (lots[:2], lots[1:], lots[::2]):
            self.gives((), "parting_fields", chart, two)

    def test_parted_by_several_fields(self):
        self.gives((0, 1, 2), "parting_fields", APART, (("a",), ("d",)))
        self.gives((0, 1), "parting_fields", APART, (("a",), ("b",)))
        self.gives((1, 2), "parting_fields", APART, (("b",), ("c", "d"), ("a", "b")))
        self.gives(True, "are_parted", APART, (("a",), ("b",)))

    def test_no_such_state(self):
        for name in ("in_all", "common_word", "how_many_common", "parting_fields", "are_parted"):
            self.fails("NoName", {"name": "x"}, name, SQUARE, (("x",),))
            self.fails("NoName", {"name": "x"}, name, SQUARE, (("a", "x"), ("b", "c")))
            self.fails("NoName", {"name": "x"}, name, SQUARE, (("a", "b"), ("c", "d"), ("d", "x")))
            self.fails("NoName", {"name": "z"}, name, SQUARE, (("a", "z"), ("a", "x")))
            self.fails("NoName", {"name": "bb"}, name, SQUARE, (("a", "b"), ("bb", "x"), ("aa",)))

    def test_great_chart(self):
        chart = great_chart()
        most, rest = tuple(LETTERS[:19]), tuple(LETTERS[1:20])
        self.gives(18 ** 20, "how_many_common", chart, (most, rest))
        least = tuple(great_value(1 if field % 2 == 0 else 18, field) for field in range(20))
        self.gives(least, "common_word", chart, (most, rest))
        self.gives((), "parting_fields", chart, (most, rest))
        self.gives(tuple(LETTERS[1:19]), "in_all", chart, (most, rest))
        self.gives(tuple(range(20)), "parting_fields", chart, (most[:10], rest[9:]))
        self.gives(0, "how_many_common", chart, (most[:10], rest[9:]))
        self.gives(None, "common_word", chart, (most[:10], rest[9:]))
        self.gives(True, "are_parted", chart, (most[:10], rest[9:]))
        self.gives(False, "are_parted", chart, lists((most[:11], rest[9:])))


if __name__ == "__main__":
    unittest.main()
