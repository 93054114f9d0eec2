"""Looks of any length, point [11]."""

import unittest
from itertools import combinations, permutations, product

from tests import judging
from tests.helping import ALONE, HUGE, KITE, LETTERS, SQUARE, Checks
from tests.helping import drawn_charts, function_called, ring, small_charts

PATH = (
    (2, 2, 2),
    (("a", (0, 0, 0)), ("b", (0, 0, 1)), ("c", (0, 1, 1)), ("d", (1, 1, 1))),
    (("a", "b"), ("b", "c"), ("c", "d")),
)
TWINS = ((2,), (("a", (0,)), ("b", (0,))), ())
STILL = (*SQUARE[:2], ())
PATH_AT_ONE = tuple((name, (1,)) for name in "abcd")
LONE_MOVE = ((2,), (("p", (0,)), ("q", (0,)), ("r", (0,))), (("p", "q"),))
# Two rings of three that share a state, and a move between one of them and a ring of four.
BEADS = (
    (3, 4, 5),
    tuple((name, (at % 3, at % 4, at % 5)) for at, name in enumerate("abcdefghi")),
    tuple(tuple(pair) for pair in ("ab", "ac", "bc", "cd", "ce", "de", "ef", "fg", "fh", "gi", "hi")),
)
# A ring of four with a move across it: all five moves are tied.
CROSSED = (*SQUARE[:2], (("a", "b"), ("a", "c"), ("a", "d"), ("b", "c"), ("c", "d")))


def drawn():
    yield from drawn_charts(41, 60, 5, (2, 3), 5)
    yield from drawn_charts(42, 40, 6, (3, 3), 6)
    # Many values, so that fields part often.
    yield from drawn_charts(43, 60, 4, (5, 4), 3)
    yield from drawn_charts(44, 60, 5, (8, 3), 5)


def charts_to_try():
    yield from (ALONE, SQUARE, KITE, PATH, TWINS, STILL, LONE_MOVE, CROSSED, ring(3), ring(5))
    yield from small_charts()
    yield from drawn()


class TestExamples(Checks):
    def test_path(self):
        self.gives((("a", "b"), ("b", "c"), ("c", "d")), "lumps", PATH)
        self.gives((("a", "b"), ("c", "d")), "sides", PATH, ("b", "c"))
        self.gives((1,), "side_fields", PATH, ("b", "c"))
        self.gives(True, "is_always_right", PATH)
        self.gives(("a", "b", "c"), "always_told", PATH, (0, 1, 0))
        self.gives(("b",), "always_told", PATH, (0, 0, 1))

    def test_square(self):
        everyone = ("a", "b", "c", "d")
        self.gives((everyone,), "lumps", SQUARE)
        self.gives((("a",), ("b",), ("c",), ("d",)), "sides", SQUARE, everyone)
        self.gives(False, "is_always_right", SQUARE)
        self.gives(everyone, "unparted_lump", SQUARE)
        self.gives((), "always_told", SQUARE, (0, 0))
        self.gives(None, "thermometer", SQUARE)

    def test_kite(self):
        self.gives((("a", "b", "c"), ("c", "d")), "lumps", KITE)
        self.gives((("a",), ("b",), ("c", "d")), "sides", KITE, ("a", "b", "c"))
        self.gives((0,), "side_fields", KITE, ("a", "b", "c"))
        self.gives((1,), "side_fields", KITE, ("c", "d"))
        self.gives(False, "is_always_right", KITE)
        self.gives((("a", "b", "c", "d"), ("e",)), "unparted_parts", KITE)

    def test_thermometers(self):
        words = (("a", (0, 0, 0)), ("b", (1, 0, 0)), ("c", (1, 1, 0)), ("d", (1, 1, 1)))
        self.gives(((2, 2, 2), words, PATH[2]), "thermometer", PATH)
        words = (("p", (0, 0)), ("q", (1, 0)), ("r", (0, 1)))
        self.gives(((2, 2), words, (("p", "q"),)), "thermometer", LONE_MOVE)

    def test_rings(self):
        self.gives(True, "ring_right", 4, 1)
        self.gives(False, "ring_right", 6, 2)
        self.gives(True, "ring_right", 7, 2)
        self.gives(3, "ring_longest", 10)


class TestLumps(Checks):
    def test_against_all_rings(self):
        for chart in charts_to_try():
            self.gives(tuple(judging.lumps(chart)), "lumps", chart)

    def test_all_moves_of_five_states(self):
        pairs = list(combinations("abcde", 2))
        states = tuple((name, (0,)) for name in "abcde")
        for chosen in range(0, 2 ** len(pairs), 7):
            chart = (2,), states, tuple(pair for bit, pair in enumerate(pairs) if chosen >> bit & 1)
            self.assertEqual(function_called("lumps")(chart), tuple(judging.lumps(chart)), chart)

    def test_lumps_that_share_a_state(self):
        found = (("a", "b", "c"), ("c", "d", "e"), ("e", "f"), ("f", "g", "h", "i"))
        self.gives(found, "lumps", BEADS)
        moves = (("a", "b"), ("a", "c"), ("b", "c"), ("c", "d"), ("c", "e"), ("d", "e"))
        bow = ((2,), tuple((name, (0,)) for name in "abcde"), moves)
        self.gives((("a", "b", "c"), ("c", "d", "e")), "lumps", bow)

    def test_none_and_one(self):
        self.gives((), "lumps", ALONE)
        self.gives((), "lumps", STILL)
        self.gives((("p", "q"),), "lumps", LONE_MOVE)
        self.gives((("a", "b", "c", "d"),), "lumps", CROSSED)
        self.gives((tuple(LETTERS[:10]),), "lumps", ring(10))

    def test_ten_states_and_twelve_moves(self):
        moves = sorted([*zip("abcdefghi", "bcdefghij"), ("a", "c"), ("g", "j"), ("d", "f")])
        chart = ((10,), tuple((name, (at,)) for at, name in enumerate("abcdefghij")), tuple(moves))
        found = (("a", "b", "c"), ("c", "d"), ("d", "e", "f"), ("f", "g"), ("g", "h", "i", "j"))
        self.gives(found, "lumps", chart)


class TestSides(Checks):
    def test_against_all_ways(self):
        for chart in charts_to_try():
            for lump in judging.lumps(chart):
                self.gives(judging.sides(chart, lump), "sides", chart, lump)

    def test_a_move_of_no_ring_beside_greater_lumps(self):
        self.gives((("a", "b", "c", "d", "e"), ("f", "g", "h", "i")), "sides", BEADS, ("e", "f"))
        self.gives((("a",), ("b",), ("c", "d", "e", "f", "g", "h", "i")), "sides", BEADS, ("a", "b", "c"))
        self.gives((("a", "b", "c"), ("d",), ("e", "f", "g", "h", "i")), "sides", BEADS, ("c", "d", "e"))
        rest = ("a", "b", "c", "d", "e", "f")
        self.gives((rest, ("g",), ("h",), ("i",)), "sides", BEADS, ("f", "g", "h", "i"))

    def test_other_parts_are_in_no_side(self):
        self.gives((("p",), ("q",)), "sides", LONE_MOVE, ("p", "q"))
        self.gives((("a", "b", "c"), ("d",)), "sides", KITE, ("c", "d"))


class TestSideFields(Checks):
    def test_against_all_values(self):
        for chart in charts_to_try():
            for lump in judging.lumps(chart):
                right = judging.fields_apart(chart, judging.sides(chart, lump))
                self.gives(right, "side_fields", chart, lump)

    def test_all_sides_must_be_apart_two_by_two(self):
        # No value stands in all three SIDES, but one stands in two of them.
        chart = ((3, 3), (("a", (0, 0)), ("b", (0, 1)), ("c", (1, 2))), ring(3)[2])
        self.gives((1,), "side_fields", chart, ("a", "b", "c"))

    def test_none_one_and_several(self):
        self.gives((), "side_fields", LONE_MOVE, ("p", "q"))
        self.gives((0,), "side_fields", ring(3), ("a", "b", "c"))
        chart = ((2, 2, 2), (("a", (0, 1, 1)), ("b", (1, 1, 0))), (("a", "b"),))
        self.gives((0, 2), "side_fields", chart, ("a", "b"))


class TestAlwaysRight(Checks):
    def test_against_all_events_of_any_length(self):
        for chart in charts_to_try():
            right = all(judging.always_told(chart, word) != () for word in judging.all_words(chart))
            self.gives(right, "is_always_right", chart)

    def test_by_the_lumps_and_the_parts(self):
        for chart in charts_to_try():
            lumps = [lump for lump in judging.lumps(chart)
                     if not judging.fields_apart(chart, judging.sides(chart, lump))]
            self.gives(min(lumps, default=None), "unparted_lump", chart)
            pairs = [pair for pair in combinations(judging.parts(chart), 2) if not judging.fields_apart(chart, pair)]
            self.gives(min(pairs, default=None), "unparted_parts", chart)
            self.gives(not lumps and not pairs, "is_always_right", chart)

    def test_right_over_2_is_not_enough(self):
        chart = function_called("bits_by")(ring(7), tuple(judging.all_cuts(ring(7))))
        self.gives(True, "is_right", chart, 2)
        self.gives(False, "is_always_right", chart)
        self.gives(tuple("abcdefg"), "unparted_lump", chart)

    def test_edges(self):
        self.gives(True, "is_always_right", ALONE)
        self.gives(None, "unparted_lump", ALONE)
        self.gives(None, "unparted_parts", ALONE)
        self.gives(False, "is_always_right", TWINS)
        self.gives(None, "unparted_lump", TWINS)
        self.gives((("a",), ("b",)), "unparted_parts", TWINS)
        # The parts are parted two by two, each two by another field.
        parted = ((2, 2), (("a", (0, 0)), ("b", (0, 1)), ("c", (1, 0))), ())
        self.gives(True, "is_always_right", parted)
        self.gives(True, "is_always_right", ring(10))
        self.gives(None, "unparted_lump", ring(10))

    def test_the_least_one_is_given(self):
        self.gives(("a", "b"), "unparted_lump", ((2,), PATH_AT_ONE, PATH[2]))
        states = tuple((name, (at // 2,)) for at, name in enumerate("abcdef"))
        self.gives((("a",), ("b",)), "unparted_parts", ((3,), states, ()))
        states = tuple((name, (value,)) for name, value in zip("abcdef", (0, 1, 2, 3, 2, 1)))
        self.gives((("b",), ("f",)), "unparted_parts", ((4,), states, ()))


class TestAlwaysTold(Checks):
    def test_against_all_events_of_any_length(self):
        for chart in charts_to_try():
            words = judging.all_words(chart)
            for word in words[::1 + len(words) // 9]:
                self.gives(judging.always_told(chart, word), "always_told", chart, word)

    def test_all_words(self):
        for chart in (SQUARE, KITE, PATH, CROSSED, LONE_MOVE, TWINS, *drawn_charts(45, 12, 5, (3, 4, 2), 4)):
            for word in judging.all_words(chart):
                self.assertEqual(function_called("always_told")(chart, word), judging.always_told(chart, word))

    def test_nobody_one_and_several(self):
        self.gives(None, "always_told", ALONE, (0,))
        self.gives(("a",), "always_told", ALONE, (1,))
        self.gives(None, "always_told", TWINS, (1,))
        self.gives((), "always_told", TWINS, (0,))
        far = ((3,) * 6, (("u", (0,) * 6), ("v", (2,) * 6)), (("u", "v"),))
        self.gives(("u", "v"), "always_told", far, (0, 2) * 3)
        self.gives(None, "always_told", far, (0, 1) * 3)
        self.gives(("v",), "always_told", far, (2,) * 6)

    def test_longer_looks_show_more(self):
        # Three moves are needed for 0 1: over 2 nobody may be told there.
        chart = ((2, 2), (("a", (0, 0)), ("b", (1, 0)), ("c", (1, 0)), ("d", (1, 1))), PATH[2])
        self.gives(None, "may_tell", chart, 2, (0, 1))
        self.gives(("a", "b", "c", "d"), "always_told", chart, (0, 1))


class TestThermometer(Checks):
    def expected(self, chart):
        columns = []
        for one, other in chart[2]:
            side = judging.led_to(chart, other, [(one, other)])
            columns.append([int(name in side) for name in judging.named(chart)])
        apart = judging.parts(chart)
        if len(apart) > 1:
            digits = format(len(apart) - 1, "b")
            for place in range(len(digits)):
                texts = {name: format(at, "b").zfill(len(digits)) for at, part in enumerate(apart) for name in part}
                columns.append([int(texts[name][place]) for name in judging.named(chart)])
        columns = columns or [[0] * len(chart[1])]
        states = tuple(zip(judging.named(chart), zip(*columns)))
        return (2,) * len(columns), states, chart[2]

    def test_charts_without_and_with_a_ring(self):
        for chart in charts_to_try():
            right = None if any(judging.rings(chart)) else self.expected(chart)
            self.gives(right, "thermometer", chart)

    def test_what_is_made_is_always_right(self):
        for chart in (ALONE, PATH, STILL, LONE_MOVE, TWINS, *drawn_charts(46, 60, 7, (2,), 4)):
            made = self.result("thermometer", chart)
            if made is not None:
                self.gives(True, "is_chart", made)
                self.gives(True, "is_always_right", made)
                self.gives(made, "thermometer", made)

    def test_the_number_of_a_part(self):
        self.gives(((2,), (("a", (0,)),), ()), "thermometer", ALONE)
        self.gives(((2,), (("a", (0,)), ("b", (1,))), ()), "thermometer", TWINS)
        for many, digits in ((3, 2), (4, 2), (5, 3), (8, 3), (9, 4), (10, 4)):
            states = tuple((name, (1,)) for name in LETTERS[:many])
            words = list(product((0, 1), repeat=digits))[:many]
            made = ((2,) * digits, tuple(zip(LETTERS[:many], words)), ())
            self.gives(made, "thermometer", ((2,), states, ()))

    def test_parts_with_moves(self):
        states = tuple((name, (0,)) for name in "abcdef")
        chart = ((2,), states, (("a", "e"), ("b", "d"), ("d", "f")))
        words = ((0, 0, 0, 0, 0), (0, 0, 0, 0, 1), (0, 0, 0, 1, 0), (0, 1, 0, 0, 1), (1, 0, 0, 0, 0), (0, 1, 1, 0, 1))
        self.gives(((2,) * 5, tuple(zip("abcdef", words)), chart[2]), "thermometer", chart)


class TestRings(Checks):
    def test_small_numbers(self):
        for number in range(3, 40):
            for long in range(14):
                self.gives(number > 3 * long, "ring_right", number, long)
            right = max(long for long in range(14) if number > 3 * long)
            self.gives(right, "ring_longest", number)

    def test_edges(self):
        self.gives(True, "ring_right", 3, 0)
        self.gives(False, "ring_right", 3, 1)
        self.gives(0, "ring_longest", 3)
        self.gives(1, "ring_longest", 4)

    def test_great_numbers(self):
        self.gives(False, "ring_right", 3 * (HUGE // 4), HUGE // 4)
        self.gives(True, "ring_right", 3 * (HUGE // 4) + 1, HUGE // 4)
        self.gives(False, "ring_right", HUGE, HUGE)
        self.gives(HUGE // 3, "ring_longest", HUGE)
        self.gives(HUGE // 3 - 1, "ring_longest", HUGE - 1)

    def test_as_the_bits_tell(self):
        for number in range(3, 9):
            for long in range(3):
                right = function_called("has_bits")(ring(number), long)
                self.gives(right, "ring_right", number, long)

    def test_longer_looks_by_all_families_of_arcs(self):
        for number in range(3, 11):
            for long in range(4):
                arcs = {frozenset((start + step) % number for step in range(many + 1))
                        for start in range(number) for many in range(min(long, number - 1) + 1)}
                self.gives(not has_bad_family(arcs), "ring_right", number, long)


def has_bad_family(arcs, held=None):
    """Whether some of the arcs meet two by two without a common state; held is what those taken have in common."""
    for arc in arcs:
        left = arc if held is None else held & arc
        if not left:
            return True
        if left != held and has_bad_family([other for other in arcs if other & arc], left):
            return True
    return False


class TestGuarantees(Checks):
    def test_each_two_lumps_have_at_most_one_state_in_common(self):
        for chart in charts_to_try():
            for one, other in combinations(function_called("lumps")(chart), 2):
                self.assertLessEqual(len(set(one) & set(other)), 1)

    def test_always_right_in_bits(self):
        for chart in drawn_charts(47, 300, 4, (2, 2, 2), 3):
            if function_called("is_always_right")(chart):
                self.assertFalse(any(judging.rings(chart)))
                for part in judging.parts(chart):
                    moves = [move for move in chart[2] if move[0] in part]
                    self.assertLessEqual(len(moves), len(chart[0]))

    def test_always_right_is_right_over_each(self):
        for chart in charts_to_try():
            if function_called("is_always_right")(chart):
                for long in range(3):
                    self.gives(True, "is_right", chart, long)

    def test_names_do_not_matter(self):
        for order in list(permutations("abcd"))[::5]:
            pairs = tuple(zip("abcd", order))
            chart = function_called("renamed_chart")(PATH, pairs)
            self.gives(True, "is_always_right", chart)
            self.gives(3, "fewest_cuts", chart, 2)


if __name__ == "__main__":
    unittest.main()
