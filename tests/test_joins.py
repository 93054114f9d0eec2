"""Moves that can be put in, point [14]."""

import unittest
from itertools import combinations

from tests import judging
from tests.helping import ALONE, KITE, PLAIN_THINGS, SQUARE, Checks
from tests.helping import drawn_charts, function_called, lists, ring, small_charts

PATH = (*SQUARE[:2], (("a", "b"), ("b", "c"), ("c", "d")))
KNIT = ((3, 3), (("a", (0, 0)), ("b", (1, 1)), ("c", (1, 2)), ("d", (2, 0))), ())
TWINS = ((2,), (("a", (0,)), ("b", (0,))), ())
PAIR = ((2,), (("a", (0,)), ("b", (1,))), (("a", "b"),))
CROSSED = (*SQUARE[:2], (("a", "b"), ("a", "c"), ("a", "d"), ("b", "c"), ("c", "d")))
# All values are unlike, so any moves can be put in.
APART = ((5,), tuple((name, (at,)) for at, name in enumerate("abcde")), ())
# Each two moves go together, all three do not.
TRIANGLE = ((2, 2, 2), (("a", (0, 0, 1)), ("b", (0, 1, 0)), ("c", (1, 0, 0))), ())
EIGHT = ((4, 4), tuple((name, (at // 2, at * 3 % 4)) for at, name in enumerate("abcdefgh")), (("a", "b"), ("c", "e")))


def charts_to_try():
    yield from (ALONE, SQUARE, PATH, KNIT, TWINS, PAIR, CROSSED, TRIANGLE, KITE, ring(3), ring(4), ring(5))
    yield from list(small_charts())[::2]
    yield from drawn_charts(61, 40, 4, (3, 3), 2)
    yield from drawn_charts(62, 20, 4, (2, 2, 2), 4)
    yield from drawn_charts(63, 20, 5, (4, 2), 3)


def free_moves(chart):
    """All free moves, by all WORDS of the CHART with one move more."""
    pairs = judging.pairs_unjoined(chart)
    return tuple(pair for pair in pairs if judging.is_right(judging.with_moves(chart, [pair]), 1))


def clashes(chart):
    return [pair for pair in combinations(free_moves(chart), 2)
            if not judging.is_right(judging.with_moves(chart, pair), 1)]


class TestExamples(Checks):
    def test_path(self):
        self.gives((("a", "d"),), "free_moves", PATH)
        self.gives(True, "can_join", PATH, "d", "a")
        self.gives(False, "can_join", PATH, "a", "c")
        self.gives(True, "can_join", PATH, "a", "b")
        joined = function_called("with_move")(PATH, "a", "c")
        self.gives(True, "is_bar", joined, 1, self.result("join_bar", PATH, "a", "c"))
        self.gives(None, "join_bar", PATH, "a", "d")
        self.fails("NoName", {"name": "q"}, "can_join", PATH, "a", "q")

    def test_knit(self):
        self.gives(tuple(combinations("abcd", 2)), "free_moves", KNIT)
        self.gives([(("a", "b"), ("c", "d")), (("a", "c"), ("b", "d"))], "clashes", KNIT)
        self.gives(False, "clash", KNIT, ("a", "b"), ("a", "c"))
        self.gives(4, "most_joins", KNIT)
        self.gives(1, "most_joins", PATH)

    def test_is_some_joins(self):
        self.gives(True, "is_some_joins", KNIT, (("a", "b"), ("a", "c"), ("a", "d"), ("b", "c")))
        self.gives(False, "is_some_joins", KNIT, (("a", "b"), ("a", "d"), ("b", "c"), ("c", "d")))
        self.gives(False, "is_some_joins", KNIT, (("a", "b"),))
        self.gives(True, "is_some_joins", KNIT, self.result("some_joins", KNIT))
        self.gives((("a", "d"),), "some_joins", PATH)


class TestCanJoin(Checks):
    def test_each_two_states(self):
        for chart in charts_to_try():
            for one, other in combinations(judging.named(chart), 2):
                joined = judging.with_moves(chart, [(one, other)])
                right = judging.is_right(joined, 1)
                self.gives(right, "can_join", chart, one, other)
                self.gives(right, "can_join", chart, other, one)
                self.check_bar(chart, joined, right, (one, other))
                self.check_bar(chart, joined, right, (other, one))

    def check_bar(self, chart, joined, right, pair):
        found = self.result("join_bar", chart, *pair)
        if right:
            self.assertIsNone(found)
        else:
            self.assertTrue(judging.is_a_bar(joined, 1, found))
            self.gives(True, "is_bar", joined, 1, found)

    def test_two_states_that_are_joined_already(self):
        for chart in (SQUARE, PATH, PAIR, CROSSED):
            for one, other in chart[2]:
                self.gives(judging.is_right(chart, 1), "can_join", chart, one, other)
        self.gives(False, "can_join", CROSSED, "a", "b")
        self.gives(True, "can_join", PAIR, "b", "a")
        self.gives(None, "join_bar", PAIR, "b", "a")

    def test_a_chart_that_is_not_right(self):
        self.gives(False, "can_join", TWINS, "a", "b")
        found = self.result("join_bar", TWINS, "a", "b")
        self.assertTrue(judging.is_a_bar((*TWINS[:2], (("a", "b"),)), 1, found))

    def test_names_that_are_no_states(self):
        for name in ("can_join", "join_bar"):
            for chart in (PATH, ALONE, TWINS):
                self.fails("NoName", {"name": "x"}, name, chart, "x", "a")
                self.fails("NoName", {"name": "x"}, name, chart, "a", "x")
                self.fails("NoName", {"name": "y"}, name, chart, "y", "x")
                self.fails("NoName", {"name": "x"}, name, chart, "x", "y")
            with self.assertRaises(LookupError):
                function_called(name)(PATH, "a", "q")


class TestFreeMoves(Checks):
    def test_against_all_words(self):
        for chart in charts_to_try():
            self.gives(free_moves(chart), "free_moves", chart)

    def test_none_and_all(self):
        self.gives((), "free_moves", ALONE)
        self.gives((), "free_moves", TWINS)
        self.gives((), "free_moves", PAIR)
        self.gives((), "free_moves", CROSSED)
        self.gives(tuple(combinations("abcde", 2)), "free_moves", APART)

    def test_a_chart_that_is_not_right_has_none(self):
        states = (("a", (0, 0)), ("b", (0, 0)), ("c", (1, 1)), ("d", (2, 2)))
        self.gives((), "free_moves", ((3, 3), states, ()))

    def test_eight_states(self):
        self.gives(free_moves(EIGHT), "free_moves", EIGHT)
        self.gives(clashes(EIGHT), "clashes", EIGHT)


class TestClash(Checks):
    def test_against_all_words(self):
        for chart in charts_to_try():
            right = clashes(chart)
            self.gives(right, "clashes", chart)
            for pair in combinations(free_moves(chart), 2):
                self.gives(pair in right, "clash", chart, *pair)
                self.gives(pair in right, "clash", chart, *pair[::-1])

    def test_three_of_which_two_go_together(self):
        self.gives([], "clashes", TRIANGLE)
        self.gives(tuple(combinations("abc", 2)), "free_moves", TRIANGLE)
        self.gives(2, "most_joins", TRIANGLE)

    def test_each_list_is_new(self):
        self.is_new("clashes", KNIT)
        self.is_new("clashes", ALONE)

    def test_many_free_moves(self):
        states = tuple((name, (at,)) for at, name in enumerate("abcdefgh"))
        self.gives([], "clashes", ((8,), states, ()))


class TestMostJoins(Checks):
    def check(self, chart):
        if not judging.is_right(chart, 1):
            self.gives(None, "most_joins", chart)
            self.fails("NoReader", {}, "some_joins", chart)
            return
        sets = list(judging.sets_to_join(chart))
        most = max(map(len, sets))
        self.gives(most, "most_joins", chart)
        found = self.result("some_joins", chart)
        self.assertEqual(len(found), most)
        self.assertIn(repr(found), list(map(repr, sets)))
        self.gives(True, "is_some_joins", chart, found)

    def test_against_all_sets_of_moves(self):
        for chart in charts_to_try():
            self.check(chart)
        for chart in drawn_charts(64, 10, 5, (3, 4), 1):
            self.check(chart)

    def test_none_are_left(self):
        for chart in (ALONE, PAIR, SQUARE, ring(3)):
            self.gives(0, "most_joins", chart)
            self.gives((), "some_joins", chart)
            self.gives(True, "is_some_joins", chart, ())

    def test_all_ten(self):
        self.gives(10, "most_joins", APART)
        self.gives(tuple(combinations("abcde", 2)), "some_joins", APART)

    def test_not_right_as_it_is(self):
        for chart in (TWINS, CROSSED, function_called("with_move")(SQUARE, "b", "d")):
            self.gives(None, "most_joins", chart)
            self.fails("NoReader", {}, "some_joins", chart)
            for thing in ((), (("a", "b"),), (("b", "d"),), None, 0):
                self.gives(False, "is_some_joins", chart, thing)
        with self.assertRaises(ValueError):
            function_called("some_joins")(TWINS)


class TestIsSomeJoins(Checks):
    def test_all_sets_of_pairs(self):
        for chart in (ALONE, PAIR, PATH, KNIT, TRIANGLE, TWINS, CROSSED, STARTED, *drawn_charts(65, 8, 4, (3, 3), 2)):
            pairs = list(combinations(judging.named(chart), 2))
            right = [some for some in judging.sets_to_join(chart)]
            most = max(map(len, right), default=-1)
            for many in range(len(pairs) + 1):
                for some in combinations(pairs, many):
                    self.gives(len(some) == most and some in right, "is_some_joins", chart, some)

    def test_pairs_that_are_joined(self):
        self.gives(False, "is_some_joins", PATH, (("a", "b"),))
        self.gives(False, "is_some_joins", PAIR, (("a", "b"),))
        self.gives(False, "is_some_joins", PATH, (("a", "b"), ("a", "d")))

    def test_order(self):
        fine = (("a", "b"), ("a", "c"), ("a", "d"), ("b", "c"))
        self.gives(True, "is_some_joins", KNIT, fine)
        for wrong in (fine[::-1], (fine[1], fine[0], *fine[2:]), (fine[0], *fine[:3]), (*fine[:3], ("c", "b")),
                      (("b", "a"), *fine[1:]), (*fine, fine[3]), (*fine[:3], fine[3], ("c", "c"))):
            self.gives(False, "is_some_joins", KNIT, wrong)

    def test_things_of_all_kinds(self):
        fine = (("a", "b"), ("a", "c"), ("a", "d"), ("b", "c"))
        for thing in PLAIN_THINGS:
            with self.subTest(repr(thing)[:60]):
                none = thing == () and isinstance(thing, tuple)
                self.gives(none, "is_some_joins", ALONE, thing)
                self.gives(False, "is_some_joins", KNIT, thing)
                self.gives(False, "is_some_joins", KNIT, (thing, *fine[1:]))
                self.gives(False, "is_some_joins", KNIT, (*fine[:3], thing))
                self.gives(False, "is_some_joins", KNIT, (*fine, thing))
                self.gives(thing == "a", "is_some_joins", KNIT, ((thing, "b"), *fine[1:]))
                self.gives(False, "is_some_joins", KNIT, (("a", "b", thing), *fine[1:]))
                self.gives(thing == "a", "is_some_joins", PATH, ((thing, "d"),))
                self.gives(False, "is_some_joins", PATH, (("a", thing),))
        for wrong in (lists(fine), [*fine], (["a", "b"], *fine[1:]), (("a", "x"),), (("x", "y"),)):
            self.gives(False, "is_some_joins", KNIT, wrong)
        self.gives(False, "is_some_joins", PATH, (["a", "d"],))
        self.gives(False, "is_some_joins", PATH, [("a", "d")])
        self.gives(False, "is_some_joins", PATH, ("ad",))


STARTED = (*KNIT[:2], (("a", "b"),))


if __name__ == "__main__":
    unittest.main()
