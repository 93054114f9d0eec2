"""READERS, point [8]."""

import unittest
from itertools import product

from tests import judging
from tests.helping import ALONE, HUGE, KITE, PLAIN_THINGS, SQUARE, Checks
from tests.helping import drawn_charts, function_called, lists, small_charts

WIDE = ((2, 2), (("u", (0, 0)), ("v", (1, 1))), (("u", "v"),))
FINE = (((0, 0), "u"), ((0, 1), "v"), ((1, 0), "u"), ((1, 1), "v"))
STILL = (*SQUARE[:2], ())
TWINS = ((2,), (("a", (0,)), ("b", (0,))), ())
JOINED_TWINS = (*TWINS[:2], (("a", "b"),))
# Most WORDS are met by nobody.
SPARSE = ((5, 4), (("p", (0, 3)), ("q", (4, 3)), ("r", (2, 0))), (("p", "q"),))
GREAT = ((HUGE, 2), (("x", (HUGE - 1, 0)), ("y", (7, 1))), (("x", "y"),))
# Eight states, twelve moves, 1,944 WORDS in all.
FULL = (
    (3, 3, 3, 3, 3, 8),
    tuple((name, tuple((at + field) % 3 for field in range(5)) + (at,)) for at, name in enumerate("abcdefgh")),
    tuple(sorted([("a", name) for name in "cdefgh"] + [("b", name) for name in "cdefgh"])),
)


def charts_to_try():
    yield from (ALONE, SQUARE, KITE, WIDE, STILL, TWINS, JOINED_TWINS, SPARSE)
    yield from list(small_charts())[::4]
    yield from drawn_charts(11, 30, 4, (2, 2, 2), 5)
    yield from drawn_charts(12, 15, 5, (3, 4), 5)
    yield from drawn_charts(13, 30, 3, (7, 2), 2)


def drawn_readers(chart, number):
    """READERS that tell at some WORDS or other, most of them wrong."""
    everyone = [None, *judging.named(chart)]
    for step in (1, 2, 5):
        rows = enumerate(judging.all_words(chart))
        told = [(word, everyone[(at * step + number) % len(everyone)]) for at, word in rows]
        yield tuple(pair for pair in told if pair[1] is not None)


class TestExamples(Checks):
    def test_what_may_be_told(self):
        told = (((0, 0), "a"), ((0, 1), "b"), ((1, 0), "d"), ((1, 1), "c"))
        self.gives(told, "a_reader", SQUARE, 1)
        self.gives(("b",), "may_tell", SQUARE, 1, (0, 1))
        self.gives((), "may_tell", SQUARE, 2, (0, 1))
        self.gives(("u", "v"), "may_tell", WIDE, 1, (0, 1))
        self.gives(None, "may_tell", WIDE, 0, (0, 1))
        self.gives([(0, 0), (1, 1)], "met_words", WIDE, 0)
        self.gives([(0, 0), (0, 1), (1, 0), (1, 1)], "met_words", WIDE, 1)

    def test_is_reader(self):
        self.gives(True, "is_reader", WIDE, 1, FINE)
        self.gives(True, "is_reader", WIDE, 0, FINE)
        self.gives(True, "is_reader", WIDE, 0, FINE[::3])
        self.gives(False, "is_reader", WIDE, 1, FINE[::3])
        self.gives(False, "is_reader", WIDE, 1, FINE[:3] + (((1, 1), "u"),))
        self.gives(True, "is_reader", WIDE, 2, self.result("a_reader", WIDE, 2))

    def test_what_is_told(self):
        self.gives("u", "tells", FINE, (1, 0))
        self.gives(None, "tells", FINE[1:], (0, 0))
        self.gives([], "wrongly_told", WIDE, 1, FINE)
        wrong = [((1, 1), ("u", "v")), ((1, 1), ("v",))]
        self.gives(wrong, "wrongly_told", WIDE, 1, FINE[:3])
        self.fails("NoReader", {}, "a_reader", SQUARE, 2)


class TestMetWords(Checks):
    def test_against_all_words(self):
        for chart in charts_to_try():
            for long in range(3):
                right = judging.may_tell(chart, long)
                self.gives(sorted(right), "met_words", chart, long)

    def test_each_list_is_new(self):
        for long in range(3):
            self.is_new("met_words", SQUARE, long)
            self.gives([(1,)], "met_words", ALONE, long)

    def test_great_numbers(self):
        self.gives([(7, 1), (HUGE - 1, 0)], "met_words", GREAT, 0)
        self.gives([(7, 0), (7, 1), (HUGE - 1, 0), (HUGE - 1, 1)], "met_words", GREAT, 1)

    def test_many_words(self):
        found = function_called("met_words")(FULL, 2)
        self.assertEqual(found, sorted(judging.may_tell(FULL, 2)))


class TestMayTell(Checks):
    def test_against_all_words(self):
        for chart in charts_to_try():
            for long in range(3):
                right = judging.may_tell(chart, long)
                words = judging.all_words(chart)
                for word in words[::1 + len(words) // 12]:
                    self.gives(right.get(word), "may_tell", chart, long, word)

    def test_nobody_one_and_several(self):
        self.gives(None, "may_tell", ALONE, 0, (0,))
        self.gives(("a",), "may_tell", ALONE, 2, (1,))
        self.gives((), "may_tell", TWINS, 0, (0,))
        self.gives(None, "may_tell", TWINS, 1, (1,))
        self.gives((), "may_tell", JOINED_TWINS, 2, (0,))
        self.gives(("p",), "may_tell", SPARSE, 2, (0, 3))
        self.gives(("p", "q"), "may_tell", ((5, 4), (("p", (0, 3)), ("q", (4, 1))), SPARSE[2]), 1, (0, 1))
        self.gives(None, "may_tell", SPARSE, 2, (2, 3))

    def test_great_numbers(self):
        self.gives(("x", "y"), "may_tell", GREAT, 1, (7, 0))
        self.gives(("x",), "may_tell", GREAT, 1, (HUGE - 1, 0))
        self.gives(None, "may_tell", GREAT, 1, (HUGE - 2, 0))


class TestAReader(Checks):
    def test_right_or_none(self):
        for chart in charts_to_try():
            for long in range(3):
                if not judging.is_right(chart, long):
                    self.fails("NoReader", {}, "a_reader", chart, long)
                    continue
                reader = self.result("a_reader", chart, long)
                self.assertTrue(judging.is_told_right(chart, long, reader))
                self.assertEqual([word for word, _ in reader], sorted(judging.may_tell(chart, long)))
                self.assertEqual(repr(reader), repr(tuple((tuple(word), name) for word, name in reader)))
                self.gives(True, "is_reader", chart, long, reader)
                self.gives([], "wrongly_told", chart, long, reader)

    def test_the_error_has_its_builtin_base_class(self):
        with self.assertRaises(ValueError):
            function_called("a_reader")(SQUARE, 2)
        for long in range(3):
            self.fails("NoReader", {}, "a_reader", TWINS, long)
            self.gives((((1,), "a"),), "a_reader", ALONE, long)


class TestIsReader(Checks):
    def test_all_readers(self):
        for chart in (SQUARE, WIDE, STILL):
            words = judging.all_words(chart)
            for names in product([None, *judging.named(chart)], repeat=len(words)):
                reader = tuple(pair for pair in zip(words, names) if pair[1] is not None)
                for long in range(3):
                    right = judging.is_told_right(chart, long, reader)
                    self.assertIs(function_called("is_reader")(chart, long, reader), right)

    def test_each_choice_of_what_may_be_told(self):
        for chart in charts_to_try():
            for long in range(3):
                if 0 < judging.how_many_right(chart, long) <= 16:
                    for reader in judging.right_readers(chart, long):
                        self.gives(True, "is_reader", chart, long, reader)
                        for at in range(len(reader)):
                            self.gives(False, "is_reader", chart, long, reader[:at] + reader[at + 1:])

    def test_drawn_readers(self):
        for number, chart in enumerate(charts_to_try()):
            for reader in drawn_readers(chart, number):
                for long in range(3):
                    right = judging.is_told_right(chart, long, reader)
                    self.gives(right, "is_reader", chart, long, reader)

    def test_other_words_may_be_told_too(self):
        reader = (((0, 3), "p"), ((2, 0), "r"), ((4, 3), "q"))
        self.gives(True, "is_reader", SPARSE, 1, reader)
        for name in "pqr":
            self.gives(True, "is_reader", SPARSE, 1, (((0, 0), name), *reader))
            self.gives(True, "is_reader", SPARSE, 1, (*reader[:2], ((4, 0), name), reader[2]))
            self.gives(True, "is_reader", SPARSE, 0, (*reader[:2], ((3, 3), name), reader[2]))
        self.gives(False, "is_reader", SPARSE, 1, (((0, 0), "x"), *reader))
        self.gives(False, "is_reader", SPARSE, 1, (*reader, ((5, 0), "p")))
        self.gives(False, "is_reader", SPARSE, 1, (((-1, 0), "p"), *reader))

    def test_order_of_the_words(self):
        for wrong in (FINE[::-1], (FINE[1], FINE[0], *FINE[2:]), (FINE[0], *FINE), (((0, 0), "v"), *FINE),
                      (FINE[0], ((0, 0), "v"), *FINE[1:]), (*FINE, FINE[3])):
            for long in range(3):
                self.gives(False, "is_reader", WIDE, long, wrong)

    def test_things_of_all_kinds(self):
        for thing in PLAIN_THINGS:
            with self.subTest(repr(thing)[:60]):
                for long in range(3):
                    self.gives(False, "is_reader", WIDE, long, thing)
                    self.gives(False, "is_reader", WIDE, long, (thing, *FINE))
                    self.gives(False, "is_reader", WIDE, long, (*FINE[:3], thing))
                    self.gives(False, "is_reader", WIDE, long, (*FINE, thing))
                    self.gives(False, "is_reader", WIDE, long, (*FINE[:2], ((1, 0), thing), FINE[3]))
                    self.gives(False, "is_reader", WIDE, long, ((thing, "u"), *FINE[1:]))
                    self.gives(False, "is_reader", WIDE, long, (((0, 0), "u", thing), *FINE[1:]))
                good = thing == 0 and thing is not False
                self.gives(good, "is_reader", WIDE, 1, (((thing, 0), "u"), *FINE[1:]))
                self.gives(good, "is_reader", WIDE, 1, (((0, thing), "u"), *FINE[1:]))
                self.gives(thing == "a", "is_reader", ALONE, 1, (((1,), thing),))

    def test_lists_are_no_tuples(self):
        for thing in (lists(FINE), [*FINE], ([(0, 0), "u"], *FINE[1:]), (([0, 0], "u"), *FINE[1:])):
            self.gives(False, "is_reader", WIDE, 1, thing)

    def test_true_and_false_are_no_values(self):
        self.gives(False, "is_reader", ALONE, 0, (((True,), "a"),))
        self.gives(False, "is_reader", WIDE, 0, (((False, False), "u"), ((1, 1), "v")))

    def test_charts_without_a_right_reader(self):
        for name in "ab":
            for long in range(3):
                self.gives(False, "is_reader", TWINS, long, (((0,), name),))
                self.gives(False, "is_reader", JOINED_TWINS, long, (((0,), name), ((1,), name)))

    def test_many_pairs(self):
        words = judging.all_words(FULL)
        may = judging.may_tell(FULL, 0)
        reader = tuple((word, may.get(word, ("a",))[0]) for word in words)
        self.gives(True, "is_reader", FULL, 0, reader)
        self.gives(False, "is_reader", FULL, 2, reader)
        self.gives([], "wrongly_told", FULL, 0, reader)


class TestTells(Checks):
    def test_each_word(self):
        for chart in (SQUARE, WIDE, SPARSE, KITE):
            for reader in drawn_readers(chart, 0):
                for word in judging.all_words(chart):
                    self.gives(dict(reader).get(word), "tells", reader, word)

    def test_any_tuple_of_numbers(self):
        for word in ((), (0,), (1, 0, 0), (-1, 0), (1, HUGE), (HUGE, -HUGE, HUGE), (1, 2)):
            self.gives(None, "tells", FINE, word)
        self.gives(None, "tells", (), (0, 0))
        self.gives("x", "tells", (((HUGE - 1, 0), "x"),), (HUGE - 1, 0))

    def test_a_long_reader(self):
        reader = tuple((word, "a" if word[0] else "b") for word in judging.all_words(FULL))
        self.gives("b", "tells", reader, (0,) * 6)
        self.gives("a", "tells", reader, (2,) * 6)
        self.gives(None, "tells", reader, (3,) * 6)


class TestWronglyTold(Checks):
    def wrong(self, chart, long, reader):
        told = dict(reader)
        events = judging.all_events(chart, long)
        return [(word, event) for word in judging.all_words(chart) for event in events
                if judging.is_shown(chart, event, word) and told.get(word) not in event]

    def test_drawn_readers(self):
        for number, chart in enumerate(charts_to_try()):
            for reader in drawn_readers(chart, number):
                for long in range(3):
                    right = self.wrong(chart, long, reader)
                    self.gives(right, "wrongly_told", chart, long, reader)
                    self.assertEqual(right == [], judging.is_told_right(chart, long, reader))

    def test_nothing_told(self):
        self.gives([((1,), ("a",))], "wrongly_told", ALONE, 2, ())
        self.gives([((0,), ("a",)), ((0,), ("b",))], "wrongly_told", TWINS, 0, ())
        self.gives(self.wrong(SQUARE, 2, ()), "wrongly_told", SQUARE, 2, ())
        self.is_new("wrongly_told", SQUARE, 1, ())
        self.is_new("wrongly_told", WIDE, 1, FINE)

    def test_what_is_told_beside_the_boxes_does_not_count(self):
        reader = (((0, 0), "p"), ((0, 3), "p"), ((2, 0), "r"), ((4, 3), "q"))
        self.gives([], "wrongly_told", SPARSE, 1, reader)


class TestGuarantee(Checks):
    def test_right_readers_are_the_choices_of_what_may_be_told(self):
        for chart in (SQUARE, WIDE, STILL, *drawn_charts(14, 15, 3, (2, 2), 3)):
            words = judging.all_words(chart)
            for long in range(3):
                met = self.result("met_words", chart, long)
                may = {word: self.result("may_tell", chart, long, word) for word in met}
                for names in product(judging.named(chart), repeat=len(words)):
                    reader = tuple(zip(words, names))
                    chosen = all(name in may.get(word, (name,)) for word, name in reader)
                    self.assertIs(function_called("is_reader")(chart, long, reader), chosen)


if __name__ == "__main__":
    unittest.main()
