"""Bits, point [10]."""

import unittest
from functools import reduce
from itertools import combinations, product
from operator import or_

from tests import judging
from tests.helping import ALONE, KITE, LETTERS, PLAIN_THINGS, SQUARE, Checks
from tests.helping import drawn_charts, function_called, lists, ring, sets_of, small_charts

CROSSED = (*SQUARE[:2], (("a", "b"), ("a", "c"), ("a", "d"), ("b", "c"), ("c", "d")))
ROW = (*SQUARE[:2], (("a", "b"), ("b", "c"), ("c", "d")))
STILL = (*SQUARE[:2], ())
TWINS = ((2,), (("a", (0,)), ("b", (0,))), ())
PAIR = (*TWINS[:2], (("a", "b"),))
TRIPLES = (("a", "b", "c"), ("a", "b", "d"), ("a", "c", "d"), ("b", "c", "d"))
ROW_CUTS = (("a",), ("a", "b"), ("a", "b", "c"))
# Three states with three around them: a part that has no ring of three.
CROSSWISE = tuple(product("abc", "def"))


def chart_of(many, moves):
    """A CHART of so many states, all with one and the same WORD."""
    return (2,), tuple((name, (0,)) for name in LETTERS[:many]), tuple(sorted(moves))


def all_charts(many):
    """All sets of moves of so many states."""
    pairs = list(combinations(LETTERS[:many], 2))
    for chosen in range(2 ** len(pairs)):
        yield chart_of(many, [pair for bit, pair in enumerate(pairs) if chosen >> bit & 1])


def charts_to_try():
    yield from (ALONE, TWINS, PAIR, SQUARE, KITE, CROSSED, ROW, STILL, ring(3), ring(5), ring(6), ring(7))
    yield from list(small_charts())[::3]
    yield from drawn_charts(31, 30, 6, (2,), 7)


def fewest(chart, long):
    """How few CUTS part all, found by trying all sets of CUTS; None if some EVENTS meet, but not in one state."""
    if any(judging.meeting_families(chart, long)):
        return None
    pairs, cuts = judging.pairs_to_part(chart, long), judging.all_cuts(chart)
    # For each CUT a number, whose bits are the pairs that it parts.
    parted = [sum(judging.cut_parts(cut, *pair) << bit for bit, pair in enumerate(pairs)) for cut in cuts]
    for many in range(len(cuts) + 1):
        for some in combinations(parted, many):
            if reduce(or_, some, 0) == 2 ** len(pairs) - 1:
                return many
    raise AssertionError("all CUTS together part all")


class TestExamples(Checks):
    def test_has_bits(self):
        rows = [[True, True, False], [True, False, False], [True, True, True]]
        for chart, row in zip((SQUARE, CROSSED, ROW), rows):
            for long in range(3):
                self.gives(row[long], "has_bits", chart, long)
        found = self.result("meeting_family", CROSSED, 1)
        around = ((("a", "b"), ("a", "c"), ("b", "c")), (("a", "c"), ("a", "d"), ("c", "d")))
        self.assertIn(found, around)

    def test_families(self):
        self.gives(False, "is_meeting_family", SQUARE, 2, (TRIPLES[0], *TRIPLES[2:]))
        self.gives(True, "is_meeting_family", SQUARE, 2, TRIPLES)
        self.gives(True, "is_meeting_family", SQUARE, 2, self.result("meeting_family", SQUARE, 2))
        self.gives(None, "meeting_family", SQUARE, 1)

    def test_cuts(self):
        events = (("a",), ("a", "b"), ("a", "b", "c"), ("b",), ("b", "c"), ("b", "c", "d"), ("c",), ("c", "d"), ("d",))
        pairs = [pair for pair in combinations(events, 2) if not judging.meets(*pair)]
        self.gives(pairs, "to_part", ROW, 2)
        self.assertEqual(len(pairs), 15)
        self.assertEqual(len(self.result("to_part", SQUARE, 1)), 16)
        for chart, long, many in ((SQUARE, 1, 2), (ROW, 1, 2), (ROW, 2, 3), (SQUARE, 2, None)):
            self.gives(many, "fewest_cuts", chart, long)

    def test_cut_lists(self):
        self.gives(True, "is_cut_list", ROW, 2, ROW_CUTS)
        self.gives(True, "is_cut_list", SQUARE, 1, (("a", "b"), ("a", "d")))
        self.gives(False, "is_cut_list", SQUARE, 1, (("a", "c"),))
        self.gives(True, "is_cut_list", SQUARE, 1, self.result("some_cuts", SQUARE, 1))
        states = (("a", (0, 0, 0)), ("b", (1, 0, 0)), ("c", (1, 1, 0)), ("d", (1, 1, 1)))
        self.gives(((2, 2, 2), states, ROW[2]), "bits_by", ROW, ROW_CUTS)
        self.fails("NoReader", {}, "some_cuts", CROSSED, 1)


class TestToPart(Checks):
    def test_all_moves_of_four_states(self):
        for chart in all_charts(4):
            for long in range(3):
                self.gives(judging.pairs_to_part(chart, long), "to_part", chart, long)

    def test_more_charts(self):
        for chart in charts_to_try():
            for long in range(3):
                self.gives(judging.pairs_to_part(chart, long), "to_part", chart, long)
        self.gives([], "to_part", ALONE, 2)
        self.gives([(("a",), ("b",))], "to_part", PAIR, 2)
        self.gives([(("a",), ("b",))], "to_part", TWINS, 0)
        self.is_new("to_part", SQUARE, 1)
        self.is_new("to_part", ALONE, 1)

    def test_eight_states_and_twelve_moves(self):
        chart = chart_of(8, [*product("ab", "cdefgh")])
        for long in range(3):
            self.gives(judging.pairs_to_part(chart, long), "to_part", chart, long)


class TestHasBits(Checks):
    def test_against_fields_for_all_cuts(self):
        # If any WORDS of bits are right, those with a field for each CUT are.
        for many in (1, 2, 3, 4):
            for chart in all_charts(many):
                in_bits = judging.in_bits(chart, judging.all_cuts(chart))
                for long in range(3):
                    self.gives(judging.is_right(in_bits, long), "has_bits", chart, long)

    def test_against_all_families(self):
        for chart in list(all_charts(5))[::3]:
            for long in range(3):
                found = function_called("has_bits")(chart, long)
                self.assertIs(found, not any(judging.meeting_families(chart, long)), (chart, long))

    def test_charts_that_can_be_read_in_bits(self):
        for chart in drawn_charts(32, 120, 5, (2, 2, 2, 2), 5):
            for long in range(3):
                if judging.is_right(chart, long):
                    self.gives(True, "has_bits", chart, long)

    def test_rings(self):
        for many in range(3, 9):
            for long in range(3):
                self.gives(many > 3 * long, "has_bits", ring(many), long)

    def test_without_rings(self):
        for chart in (ROW, STILL, ALONE, TWINS, PAIR, *drawn_charts(33, 60, 8, (2,), 4)):
            if is_forest(chart):
                for long in range(3):
                    self.gives(True, "has_bits", chart, long)
                    self.gives(None, "meeting_family", chart, long)
        star = chart_of(8, [("a", name) for name in "bcdefgh"])
        self.gives(True, "has_bits", star, 2)

    def test_words_do_not_matter(self):
        for moves in (SQUARE[2], CROSSED[2], ROW[2]):
            for long in range(3):
                right = self.result("has_bits", (*SQUARE[:2], moves), long)
                self.gives(right, "has_bits", chart_of(4, moves), long)
        great = ((10 ** 40,) * 20, tuple((name, (10 ** 40 - 1,) * 20) for name in "abcd"), SQUARE[2])
        self.gives(True, "has_bits", great, 1)
        self.gives(2, "fewest_cuts", great, 1)


def is_forest(chart):
    """Whether each move joins two parts that were not led to one another without it."""
    part = {name: name for name in judging.named(chart)}
    for one, other in chart[2]:
        if part[one] == part[other]:
            return False
        part = {name: part[one] if part[name] == part[other] else part[name] for name in part}
    return True


class TestMeetingFamily(Checks):
    def check(self, chart, long):
        right = list(judging.meeting_families(chart, long))
        found = self.result("meeting_family", chart, long)
        if not right:
            self.assertIsNone(found)
        else:
            self.assertIn(repr(found), list(map(repr, right)))
            self.gives(True, "is_meeting_family", chart, long, found)

    def test_all_moves_of_four_states(self):
        for chart in all_charts(4):
            for long in range(3):
                self.check(chart, long)

    def test_more_charts(self):
        for chart in charts_to_try():
            for long in range(2):
                self.check(chart, long)
        for chart in (ring(5), ring(6), ring(7), ring(8)):
            self.check(chart, 2)

    def test_eight_states_and_twelve_moves(self):
        chart = chart_of(8, [*product("ab", "cdefgh")])
        self.check(chart, 1)
        self.gives(True, "is_meeting_family", chart, 2, self.result("meeting_family", chart, 2))


class TestIsMeetingFamily(Checks):
    def check(self, chart, long, most):
        right = set(judging.meeting_families(chart, long))
        for many in range(most + 1):
            for family in combinations(judging.all_events(chart, long), many):
                self.assertIs(function_called("is_meeting_family")(chart, long, family), family in right)

    def test_all_families(self):
        for chart in (ALONE, PAIR, TWINS, SQUARE, CROSSED, ring(3)):
            for long in range(3):
                self.check(chart, long, 4 if long == 2 and len(chart[1]) > 3 else 5)
        self.check(chart_of(4, combinations("abcd", 2)), 2, 4)
        self.check(ring(6), 2, 3)

    def test_too_many(self):
        three = (("a", "b"), ("a", "c"), ("b", "c"))
        self.gives(True, "is_meeting_family", CROSSED, 1, three)
        self.gives(False, "is_meeting_family", CROSSED, 0, three)
        four = (("a", "b"), ("a", "b", "c"), ("a", "c"), ("b", "c"))
        self.gives(True, "is_meeting_family", CROSSED, 2, four)
        self.gives(False, "is_meeting_family", CROSSED, 1, four)
        five = (("a", "b"), ("a", "b", "c"), ("a", "c"), ("a", "c", "d"), ("b", "c"))
        self.gives(True, "is_meeting_family", CROSSED, 2, (five[0], *five[2:]))
        self.gives(False, "is_meeting_family", CROSSED, 2, five)

    def test_events_that_do_not_all_meet(self):
        self.gives(False, "is_meeting_family", SQUARE, 1, (("a", "b"), ("c", "d")))
        self.gives(False, "is_meeting_family", SQUARE, 1, (("a",), ("b",)))
        self.gives(False, "is_meeting_family", SQUARE, 1, (("a", "b"), ("b", "c"), ("c", "d")))
        self.gives(False, "is_meeting_family", SQUARE, 1, (("a",), ("a", "b"), ("a", "d")))

    def test_order(self):
        three = (("a", "b"), ("a", "c"), ("b", "c"))
        self.gives(False, "is_meeting_family", CROSSED, 1, three[::-1])
        self.gives(False, "is_meeting_family", CROSSED, 2, (three[0], *three))
        self.gives(False, "is_meeting_family", CROSSED, 1, (("b", "a"), *three[1:]))

    def test_things_of_all_kinds(self):
        three = (("a", "b"), ("a", "c"), ("b", "c"))
        for thing in PLAIN_THINGS:
            with self.subTest(repr(thing)[:60]):
                for long in range(3):
                    self.gives(False, "is_meeting_family", CROSSED, long, thing)
                self.gives(False, "is_meeting_family", CROSSED, 2, (thing, *three))
                self.gives(False, "is_meeting_family", CROSSED, 2, (*three, thing))
                self.gives(False, "is_meeting_family", CROSSED, 1, (*three[:2], thing))
                self.gives(thing == "b", "is_meeting_family", CROSSED, 1, (*three[:2], (thing, "c")))
        self.gives(False, "is_meeting_family", CROSSED, 1, lists(three))
        self.gives(False, "is_meeting_family", CROSSED, 1, [*three])
        self.gives(False, "is_meeting_family", CROSSED, 1, (*three[:2], ["b", "c"]))


class TestIsCutList(Checks):
    def test_all_sets_of_cuts(self):
        for chart in (ALONE, TWINS, PAIR, ring(3), *list(all_charts(4))[::6], CROSSED):
            for long in range(3):
                for some in sets_of(judging.all_cuts(chart), 0):
                    right = judging.parts_all(chart, long, some)
                    self.assertIs(function_called("is_cut_list")(chart, long, some), right)

    def test_some_in_all_forms(self):
        for chart in (SQUARE, ROW, STILL, CROSSED):
            for long in range(3):
                for some in sets_of(judging.all_cuts(chart), 0)[::9]:
                    self.gives(judging.parts_all(chart, long, some), "is_cut_list", chart, long, some)

    def test_all_cuts_of_eight_states(self):
        chart = chart_of(8, [*product("ab", "cdefgh")])
        cuts = tuple(judging.all_cuts(chart))
        self.gives(True, "is_cut_list", chart, 2, cuts)
        # Just these part b, c, d from a, e, f, which are EVENTS over 2.
        only = (("a", "e", "f"), ("a", "e", "f", "g"), ("a", "e", "f", "h"), ("a", "e", "f", "g", "h"))
        self.gives(False, "is_cut_list", chart, 2, tuple(cut for cut in cuts if cut not in only))
        self.gives(True, "is_cut_list", chart, 2, tuple(cut for cut in cuts if cut not in only[1:]))
        self.gives(True, "is_cut_list", chart, 0, cuts[::3])

    def test_none_and_needless_ones(self):
        for long in range(3):
            self.gives(True, "is_cut_list", ALONE, long, ())
            self.gives(True, "is_cut_list", ALONE, long, (("a",),))
            self.gives(False, "is_cut_list", TWINS, long, ())
            self.gives(False, "is_cut_list", TWINS, long, (("a", "b"),))
            self.gives(True, "is_cut_list", TWINS, long, (("a",), ("a", "b")))
            everyone = ("a", "b", "c", "d")
            self.gives(True, "is_cut_list", ROW, long, (("a",), ("a", "b"), ("a", "b", "c"), everyone, ("a", "d")))

    def test_sets_that_are_no_cuts(self):
        for wrong in ((), ("b",), ("b", "c"), ("b", "a"), ("a", "a"), ("a", "c", "b"), ("a", "x"), ("x",), ["a"], "a"):
            some = (*ROW_CUTS, wrong)
            self.gives(False, "is_cut_list", ROW, 2, some)
            self.gives(False, "is_cut_list", ROW, 2, (wrong, *ROW_CUTS))
            self.gives(False, "is_cut_list", ALONE, 0, (wrong,))
        chart = ((2,), (("b", (0,)), ("c", (0,))), ())
        self.gives(True, "is_cut_list", chart, 1, (("b",),))
        self.gives(False, "is_cut_list", chart, 1, (("c",),))

    def test_order(self):
        self.gives(False, "is_cut_list", ROW, 2, ROW_CUTS[::-1])
        self.gives(False, "is_cut_list", ROW, 2, (ROW_CUTS[0], *ROW_CUTS))
        self.gives(False, "is_cut_list", ROW, 2, (ROW_CUTS[0], ROW_CUTS[2], ROW_CUTS[1]))

    def test_things_of_all_kinds(self):
        for thing in PLAIN_THINGS:
            with self.subTest(repr(thing)[:60]):
                self.gives(False, "is_cut_list", ROW, 2, thing)
                self.gives(thing == () and isinstance(thing, tuple), "is_cut_list", ALONE, 2, thing)
                self.gives(False, "is_cut_list", ROW, 2, (thing, *ROW_CUTS))
                self.gives(False, "is_cut_list", ROW, 2, (*ROW_CUTS, thing))
                self.gives(False, "is_cut_list", ROW, 2, (*ROW_CUTS[:2], ("a", "b", "c", thing)))
                self.gives(thing == "a", "is_cut_list", ROW, 2, (ROW_CUTS[0], (thing, "b"), ROW_CUTS[2]))
                self.gives(thing == "a", "is_cut_list", ALONE, 2, ((thing,),))
        self.gives(False, "is_cut_list", ROW, 2, lists(ROW_CUTS))
        self.gives(False, "is_cut_list", ROW, 2, [*ROW_CUTS])
        self.gives(False, "is_cut_list", ROW, 2, (["a"], *ROW_CUTS[1:]))


class TestBitsBy(Checks):
    def test_some_sets_of_cuts(self):
        for chart in (ALONE, SQUARE, KITE, *drawn_charts(34, 10, 5, (2, 9), 6)):
            for some in sets_of(judging.all_cuts(chart)[:5], 1):
                self.gives(judging.in_bits(chart, some), "bits_by", chart, some)

    def test_all_cuts(self):
        chart = chart_of(8, [*product("ab", "cdefgh")])
        cuts = tuple(judging.all_cuts(chart))
        self.gives(judging.in_bits(chart, cuts), "bits_by", chart, cuts)
        self.gives(((2,), (("a", (0,)), ("b", (0,))), (("a", "b"),)), "bits_by", PAIR, (("a", "b"),))
        self.gives(((2,), (("a", (0,)), ("b", (1,))), (("a", "b"),)), "bits_by", PAIR, (("a",),))


class TestFewestCuts(Checks):
    def check(self, chart, long, right):
        self.gives(right, "fewest_cuts", chart, long)
        if right is None:
            self.fails("NoReader", {}, "some_cuts", chart, long)
            return
        cuts = self.result("some_cuts", chart, long)
        self.assertEqual(len(cuts), max(1, right))
        self.assertEqual(list(cuts), sorted(set(cuts) & set(judging.all_cuts(chart))))
        self.assertTrue(judging.parts_all(chart, long, cuts))
        self.gives(True, "is_cut_list", chart, long, cuts)
        self.assertEqual(repr(cuts), repr(tuple(map(tuple, cuts))))

    def test_all_moves_of_few_states(self):
        for many in (1, 2, 3, 4):
            for chart in all_charts(many):
                for long in range(3):
                    self.check(chart, long, fewest(chart, long))

    def test_five_states(self):
        for chart in list(all_charts(5))[::29]:
            for long in range(3):
                self.check(chart, long, fewest(chart, long))

    def test_six_states(self):
        row = [(one, other) for one, other in zip("abcde", "bcdef")]
        star = [("a", name) for name in "bcdef"]
        for moves in ((), row, row[1:], star, [*star[:3], ("d", "e"), ("e", "f")], ring(6)[2], CROSSWISE):
            for long in range(3):
                self.check(chart_of(6, moves), long, fewest(chart_of(6, moves), long))
        for chart in drawn_charts(37, 25, 6, (2,), 7):
            for long in range(3):
                self.check(chart, long, fewest(chart, long))

    def test_six_states_counted(self):
        crosswise = chart_of(6, CROSSWISE)
        for long, many in ((0, 3), (1, 5), (2, None)):
            self.check(crosswise, long, many)
        dense = chart_of(6, list(combinations("abcdef", 2))[:12])
        for long, many in ((0, 3), (1, None), (2, None)):
            self.check(dense, long, many)

    def test_none_is_needed(self):
        for long in range(3):
            self.gives(0, "fewest_cuts", ALONE, long)
            self.gives((("a",),), "some_cuts", ALONE, long)
            self.check(PAIR, long, 1)
            self.check(TWINS, long, 1)

    def test_the_error_has_its_builtin_base_class(self):
        with self.assertRaises(ValueError):
            function_called("some_cuts")(SQUARE, 2)


class TestGuarantees(Checks):
    def test_bits_are_right_exactly_if_all_pairs_are_parted(self):
        for chart in (ROW, STILL, SQUARE, PAIR, ring(3), *drawn_charts(35, 12, 4, (2,), 4)):
            for long in range(3):
                if self.result("has_bits", chart, long):
                    for some in sets_of(judging.all_cuts(chart), 1)[::3]:
                        right = judging.is_right(judging.in_bits(chart, some), long)
                        self.assertIs(function_called("is_cut_list")(chart, long, some), right)

    def test_what_is_planned_is_right(self):
        for chart in (*drawn_charts(36, 40, 6, (3,), 6), chart_of(6, CROSSWISE)):
            for long in range(3):
                if self.result("has_bits", chart, long):
                    planned = self.result("bits_by", chart, self.result("some_cuts", chart, long))
                    self.assertTrue(judging.is_right(planned, long))
                    self.gives(True, "is_right", planned, long)


if __name__ == "__main__":
    unittest.main()
