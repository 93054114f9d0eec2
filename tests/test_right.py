"""Charts that can be read, point [7]."""

import unittest
from itertools import combinations

from tests import judging
from tests.helping import ALONE, HUGE, KITE, PLAIN_THINGS, SQUARE, Checks
from tests.helping import drawn_charts, function_called, lists, small_charts

CROSSED = (*SQUARE[:2], (("a", "b"), ("a", "c"), ("a", "d"), ("b", "c"), ("c", "d")))
ONE = ((3,), (("a", (0,)), ("b", (1,)), ("c", (2,))), (("a", "b"), ("a", "c"), ("b", "c")))
THREE = ((2, 2, 2), (("a", (0, 0, 1)), ("b", (0, 1, 0)), ("c", (1, 0, 0))), ONE[2])
TWINS = ((2,), (("a", (0,)), ("b", (0,))), ())
JOINED_TWINS = (*TWINS[:2], (("a", "b"),))
STILL = (*SQUARE[:2], ())
# Each three of the four states make an EVENT over 2; each three EVENTS have a state in common.
FOUR = (
    (2, 2, 2, 2),
    (("a", (1, 0, 0, 0)), ("b", (0, 1, 0, 0)), ("c", (0, 0, 1, 0)), ("d", (0, 0, 0, 1))),
    tuple(combinations("abcd", 2)),
)
TRIPLES = tuple(combinations("abcd", 3))
# In each field two other states have one value: all but the four triples is parted.
MERGED = (
    (3,) * 6,
    (("a", (0, 0, 0, 0, 0, 0)), ("b", (0, 1, 1, 1, 1, 1)), ("c", (1, 0, 2, 1, 2, 2)), ("d", (2, 2, 0, 2, 1, 2))),
    tuple(combinations("abcd", 2)),
)
# Twelve moves of eight states: two states with six around each of them.
HUBS = tuple(sorted([("a", name) for name in "cdefgh"] + [("b", name) for name in "cdefgh"]))


def wide_chart(moves, told):
    """Eight states in 20 fields of 41 digits; the last field alone tells them apart, if it is told."""
    states = tuple((name, (HUGE - 1,) * 19 + (at if told else 0,)) for at, name in enumerate("abcdefgh"))
    return (HUGE,) * 20, states, moves


def charts_to_try():
    yield from (ALONE, SQUARE, KITE, CROSSED, ONE, THREE, TWINS, JOINED_TWINS, STILL, FOUR)
    yield from list(small_charts())[::4]
    yield from drawn_charts(1, 40, 4, (2, 2, 2), 5)
    yield from drawn_charts(2, 20, 5, (3, 4), 5)
    yield from drawn_charts(3, 20, 5, (6,), 6)


class TestExamples(Checks):
    def test_right(self):
        found = [[True, True, False], [True, False, False], [True, True, True], [True, False, False]]
        for chart, row, longest in zip((SQUARE, CROSSED, ONE, THREE), found, (1, 0, 2, 0)):
            for long in range(3):
                self.gives(row[long], "is_right", chart, long)
            self.gives(longest, "longest_look", chart)

    def test_bars(self):
        self.gives(True, "is_bar", CROSSED, 1, ((0, 1), (("a", "c"), ("b",))))
        self.gives(True, "is_bar", THREE, 1, ((0, 0, 0), (("a", "b"), ("a", "c"), ("b", "c"))))
        self.gives(True, "is_bar", SQUARE, 2, ((1, 0), (("a", "b", "c"), ("d",))))
        self.gives(False, "is_bar", SQUARE, 1, ((1, 0), (("a", "b"), ("d",))))
        self.gives(True, "is_bar", THREE, 1, self.result("bar", THREE, 1))
        self.gives(None, "bar", SQUARE, 1)
        self.gives(None, "bar", ONE, 2)
        self.gives(((0,), (("a",), ("b",))), "bar", TWINS, 0)
        self.gives(False, "is_bar", SQUARE, 2, ((1, 0), (("d",), ("a", "b", "c"))))

    def test_unparted(self):
        self.gives([(("a", "c"), ("b",)), (("a", "c"), ("d",))], "unparted_pairs", CROSSED, 1)
        self.gives([("a", "b", "c"), ("a", "c", "d")], "unparted_threes", CROSSED)
        self.gives([], "unparted_pairs", THREE, 1)
        self.gives([("a", "b", "c")], "unparted_threes", THREE)
        self.gives([], "unparted_threes", ONE)
        self.gives(None, "longest_look", TWINS)

    def test_events_at(self):
        self.gives([("a", "b"), ("b",), ("b", "c")], "events_at", SQUARE, 1, (0, 1))
        self.gives([("a", "b"), ("a", "c"), ("b", "c")], "events_at", THREE, 1, (0, 0, 0))


class TestIsRight(Checks):
    def check(self, chart):
        right = [judging.is_right(chart, long) for long in range(3)]
        for long in range(3):
            self.gives(right[long], "is_right", chart, long)
        # Whoever can tell over a longer look can over a shorter one.
        self.assertEqual(right, sorted(right, reverse=True))
        self.gives(sum(right) - 1 if right[0] else None, "longest_look", chart)

    def test_against_all_words(self):
        for chart in charts_to_try():
            self.check(chart)

    def test_more_drawn_charts(self):
        for chart in drawn_charts(4, 200, 5, (2, 3, 2), 5):
            for long in range(3):
                found = function_called("is_right")(chart, long)
                self.assertIs(found, judging.is_right(chart, long), (chart, long))
                self.assertEqual(found, not judging.unparted(chart, long, long + 2))

    def test_one_state_and_no_moves(self):
        self.gives(2, "longest_look", ALONE)
        self.gives(2, "longest_look", STILL)
        self.gives(None, "longest_look", TWINS)
        self.gives(None, "longest_look", JOINED_TWINS)
        self.gives(None, "longest_look", KITE)

    def test_four_events_are_needed(self):
        for chart in (MERGED, (*MERGED[:2], SQUARE[2])):
            self.assertEqual(judging.unparted(chart, 2, 3), [])
            self.assertEqual(judging.unparted(chart, 2, 4), [TRIPLES])
            self.check(chart)
            self.gives(1, "longest_look", chart)
            self.assertEqual(self.result("bar", chart, 2)[1], TRIPLES)

    def test_twenty_fields(self):
        for moves in (HUBS, HUBS[:5], ()):
            self.gives(2, "longest_look", wide_chart(moves, True))
            self.gives(None, "longest_look", wide_chart(moves, False))
            for long in range(3):
                self.gives(True, "is_right", wide_chart(moves, True), long)
                self.gives(False, "is_right", wide_chart(moves, False), long)

    def test_a_field_more_helps_and_a_field_alike_does_not(self):
        for sizes, states, moves in drawn_charts(5, 20, 4, (2, 2), 4):
            longest = self.result("longest_look", (sizes, states, moves))
            alike = tuple((name, (*word, 5)) for name, word in states)
            self.gives(longest, "longest_look", ((*sizes, HUGE), alike, moves))
            apart = tuple((name, (*word, at)) for at, (name, word) in enumerate(states))
            self.gives(2, "longest_look", ((*sizes, 9), apart, moves))


class TestBar(Checks):
    def check(self, chart, long):
        found = self.result("bar", chart, long)
        if found is None:
            self.assertTrue(judging.is_right(chart, long))
        else:
            self.assertFalse(judging.is_right(chart, long))
            self.assertTrue(judging.is_a_bar(chart, long, found))
            self.assertEqual(repr(found), repr((tuple(found[0]), tuple(map(tuple, found[1])))))
            self.gives(True, "is_bar", chart, long, found)

    def test_against_all_words(self):
        for chart in charts_to_try():
            for long in range(3):
                self.check(chart, long)

    def test_words_alike(self):
        for long in range(3):
            self.gives(None, "bar", ALONE, long)
            self.check(TWINS, long)
            self.check(JOINED_TWINS, long)

    def test_twenty_fields(self):
        for long in range(3):
            self.gives(None, "bar", wide_chart(HUBS, True), long)
            word, found = self.result("bar", wide_chart(HUBS, False), long)
            self.assertEqual(word, (HUGE - 1,) * 19 + (0,))
            self.gives(True, "is_bar", wide_chart(HUBS, False), long, (word, found))


class TestIsBar(Checks):
    def check(self, chart, long, most):
        known = judging.all_events(chart, long)
        families = [family for many in range(most + 1) for family in combinations(known, many)]
        for word in judging.all_words(chart):
            for family in families:
                right = judging.is_a_bar(chart, long, (word, family))
                self.assertIs(function_called("is_bar")(chart, long, (word, family)), right)

    def test_all_families(self):
        for chart in (ALONE, TWINS, JOINED_TWINS, THREE, CROSSED):
            for long in range(2):
                self.check(chart, long, 4)
        self.check(ONE, 2, 5)
        self.check(JOINED_TWINS, 2, 5)
        self.check(SQUARE, 2, 3)

    def test_four_events_over_two_moves(self):
        everywhere = (0, 0, 0, 0)
        self.gives(True, "is_bar", FOUR, 2, (everywhere, TRIPLES))
        self.gives(False, "is_bar", FOUR, 2, (everywhere, TRIPLES[:3]))
        self.gives(False, "is_bar", FOUR, 2, (everywhere, (("a",), *TRIPLES)))
        self.gives(False, "is_bar", FOUR, 2, (everywhere, (*TRIPLES[:3], ("b", "c"), TRIPLES[3])))
        self.gives(True, "is_bar", FOUR, 2, (everywhere, (("a", "b"), *TRIPLES[1:])))
        self.gives(False, "is_bar", FOUR, 1, (everywhere, TRIPLES))

    def test_order_and_number_of_the_events(self):
        two = (("a", "c"), ("b",))
        self.gives(True, "is_bar", CROSSED, 1, ((0, 1), two))
        self.gives(False, "is_bar", CROSSED, 1, ((0, 1), two[::-1]))
        self.gives(False, "is_bar", CROSSED, 1, ((0, 1), (two[0], *two)))
        self.gives(False, "is_bar", CROSSED, 1, ((0, 1), (*two, two[1])))
        self.gives(True, "is_bar", CROSSED, 1, ((0, 1), (("a", "b"), *two)))
        self.gives(False, "is_bar", CROSSED, 0, ((0, 1), two))
        self.gives(False, "is_bar", CROSSED, 1, ((0, 0), two))
        self.gives(False, "is_bar", CROSSED, 1, ((0, 1), (("c", "a"), ("b",))))
        # Four EVENTS are too many over 1, three over 0.
        four = (("a", "b"), ("a", "c"), ("b",), ("b", "c"))
        self.gives(True, "is_bar", CROSSED, 2, ((0, 1), four))
        self.gives(False, "is_bar", CROSSED, 1, ((0, 1), four))
        all_alike = ((2,), (("a", (0,)), ("b", (0,)), ("c", (0,))), ())
        self.gives(True, "is_bar", all_alike, 0, ((0,), (("a",), ("c",))))
        self.gives(False, "is_bar", all_alike, 0, ((0,), (("a",), ("b",), ("c",))))
        self.gives(True, "is_bar", all_alike, 1, ((0,), (("a",), ("b",), ("c",))))

    def test_things_of_all_kinds(self):
        word, two = (0, 1), (("a", "c"), ("b",))
        for thing in PLAIN_THINGS:
            with self.subTest(repr(thing)[:60]):
                is_zero = thing == 0 and thing is not False
                self.gives(False, "is_bar", CROSSED, 1, thing)
                self.gives(False, "is_bar", CROSSED, 1, (thing, two))
                self.gives(False, "is_bar", CROSSED, 1, (word, thing))
                self.gives(False, "is_bar", CROSSED, 1, (word, two, thing))
                self.gives(is_zero, "is_bar", CROSSED, 1, ((thing, 1), two))
                self.gives(False, "is_bar", CROSSED, 1, ((0, 1, thing), two))
                self.gives(False, "is_bar", CROSSED, 1, (word, (thing, two[1])))
                self.gives(False, "is_bar", CROSSED, 1, (word, (two[0], thing)))
                self.gives(False, "is_bar", CROSSED, 1, (word, (*two, thing)))
                self.gives(thing == "c", "is_bar", CROSSED, 1, (word, (("a", thing), ("b",))))
                self.gives(thing == "b", "is_bar", CROSSED, 1, (word, (("a", "c"), (thing,))))

    def test_lists_are_no_tuples(self):
        word, two = (0, 1), (("a", "c"), ("b",))
        for thing in (lists((word, two)), [word, two], ([0, 1], two), (word, [*two]), (word, (["a", "c"], ("b",)))):
            self.gives(False, "is_bar", CROSSED, 1, thing)

    def test_words_that_are_none(self):
        two = (("a", "c"), ("b",))
        for word in ((), (0,), (0, 1, 0), (0, 2), (0, -1), (False, True), (0, True)):
            self.gives(False, "is_bar", CROSSED, 1, (word, two))

    def test_great_numbers(self):
        chart, word = wide_chart(HUBS, False), (HUGE - 1,) * 19 + (0,)
        self.gives(True, "is_bar", chart, 2, (word, (("a",), ("b",))))
        self.gives(True, "is_bar", chart, 2, (word, (("a", "c", "d"), ("b", "e", "f"))))
        self.gives(False, "is_bar", chart, 2, (word[:19] + (1,), (("a",), ("b",))))
        self.gives(False, "is_bar", wide_chart(HUBS, True), 2, (word, (("a",), ("b",))))


class TestUnparted(Checks):
    def test_pairs(self):
        for chart in charts_to_try():
            for long in range(3):
                self.gives(judging.unparted(chart, long, 2), "unparted_pairs", chart, long)

    def test_threes(self):
        for chart in (*charts_to_try(), *drawn_charts(6, 60, 5, (3, 3), 9)):
            joined = [three for three in combinations(judging.named(chart), 3)
                      if all(pair in chart[2] for pair in combinations(three, 2))]
            words = dict(chart[1])
            right = [three for three in joined
                     if not any(len(set(column)) == 3 for column in zip(*(words[name] for name in three)))]
            self.gives(right, "unparted_threes", chart)

    def test_right_over_one_exactly_without_both(self):
        for chart in drawn_charts(7, 80, 5, (3, 3), 8):
            neither = self.result("unparted_pairs", chart, 1) == [] == self.result("unparted_threes", chart)
            self.assertEqual(neither, judging.is_right(chart, 1))

    def test_edges(self):
        for long in range(3):
            self.gives([], "unparted_pairs", ALONE, long)
            self.gives([(("a",), ("b",))], "unparted_pairs", TWINS, long)
            self.gives([(("a",), ("b",))], "unparted_pairs", JOINED_TWINS, long)
            self.gives([], "unparted_pairs", wide_chart(HUBS, True), long)
            self.is_new("unparted_pairs", CROSSED, long)
        self.gives([], "unparted_threes", ALONE)
        self.gives([], "unparted_threes", wide_chart(HUBS, False))
        self.is_new("unparted_threes", CROSSED)

    def test_twenty_fields(self):
        chart = wide_chart(HUBS, False)
        known = judging.all_events(chart, 1)
        right = [pair for pair in combinations(known, 2) if not judging.meets(*pair)]
        self.gives(right, "unparted_pairs", chart, 1)
        around = tuple(combinations("abcd", 2))
        self.gives(list(TRIPLES), "unparted_threes", wide_chart(around, False))
        self.gives([], "unparted_threes", wide_chart(around, True))


class TestEventsAt(Checks):
    def test_all_words(self):
        for chart in charts_to_try():
            words = judging.all_words(chart)
            for long in range(3):
                for word in words[::1 + len(words) // 12]:
                    self.gives(judging.showing(chart, long, word), "events_at", chart, long, word)

    def test_words_that_nobody_meets(self):
        for long in range(3):
            self.gives([], "events_at", ALONE, long, (0,))
            self.gives([], "events_at", wide_chart(HUBS, True), long, (0,) * 20)
        self.gives([("a",)], "events_at", ALONE, 2, (1,))
        self.is_new("events_at", SQUARE, 2, (0, 0))
        self.is_new("events_at", ALONE, 2, (0,))

    def test_twenty_fields(self):
        chart = wide_chart(HUBS, True)
        word = (HUGE - 1,) * 19
        self.gives([("a", "c"), ("b", "c"), ("c",)], "events_at", chart, 1, (*word, 2))
        self.gives([], "events_at", chart, 1, (*word, 8))
        self.gives([], "events_at", chart, 1, (*word[:18], 0, 2))


if __name__ == "__main__":
    unittest.main()
