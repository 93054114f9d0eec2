"""Steady READERS, point [9]."""

import random
import unittest
from functools import lru_cache
from itertools import combinations, permutations, product

from tests import judging
from tests.helping import ALONE, PLAIN_THINGS, SQUARE, Checks
from tests.helping import drawn_charts, function_called, lists

CUBE = ((2, 2, 2), (("a", (0, 0, 0)), ("b", (1, 1, 1))), (("a", "b"),))
CUBE_WORDS = tuple(product(range(2), repeat=3))
TURNING = tuple(zip(CUBE_WORDS, "aaaabaab"))
REST = (CUBE[0], (*CUBE[1], ("c", (0, 1, 0))), CUBE[2])
STILL = (*SQUARE[:2], ())
TWINS = ((2,), (("a", (0,)), ("b", (0,))), ())
JOINED_TWINS = (*TWINS[:2], (("a", "b"),))
NEAR = ((2, 3), (("a", (0, 2)), ("b", (1, 2))), (("a", "b"),))
# Two moves of one state, each over three fields; two WORDS stand in both BOXES.
FORKED = ((2, 2, 2, 2), (("a", (0, 0, 0, 0)), ("b", (1, 1, 1, 0)), ("c", (0, 0, 1, 1))), (("a", "b"), ("a", "c")))
# Eight states, twelve moves, six fields at which all are unlike.
FULL = (
    (8,) * 6,
    tuple((name, (at,) * 6) for at, name in enumerate("abcdefgh")),
    tuple(sorted([("a", name) for name in "cdefgh"] + [("b", name) for name in "cdefgh"])),
)


def far_chart(fields):
    """Two states, unlike at so many fields."""
    return (2,) * fields, (("a", (0,) * fields), ("b", (1,) * fields)), (("a", "b"),)


def far_reader(fields, tells_b):
    """A READER of that CHART: right at the ends, between them b where tells_b is so."""
    words = product(range(2), repeat=fields)
    told = [(word, "ab"[sum(word) == fields or (sum(word) > 0 and tells_b(word))]) for word in words]
    return tuple(told)


@lru_cache
def charts_to_try():
    """CHARTS right over 1 with few READERS, so that all of these can be looked at."""
    found = [ALONE, SQUARE, STILL, CUBE, NEAR, FORKED, far_chart(2)]
    for seed, states, sizes, moves in ((21, 3, (2, 2, 2), 3), (22, 4, (3, 2, 2), 3), (23, 4, (2, 3, 3), 4),
                                       (24, 4, (2, 2, 2, 2), 3), (25, 5, (4, 4, 2), 5)):
        drawn = drawn_charts(seed, 400, states, sizes, moves)
        # Single moves are looked at above: one drawn for each kind of CHARTS is enough.
        several = [chart for chart in drawn if len(chart[2]) > 1 and is_told_by_few(chart)]
        single = [chart for chart in drawn_charts(seed, 100, states, sizes, 1) if chart[2] and is_told_by_few(chart)]
        found += several[:5] + single[:1]
    return found


def is_told_by_few(chart):
    return 1 < judging.how_many_right(chart, 1) <= 128


def wrong_charts():
    """CHARTS that are not right over 1."""
    return (REST, TWINS, JOINED_TWINS, (*SQUARE[:2], (("a", "c"),)), (*SQUARE[:2], tuple(combinations("abcd", 2))))


class TestExamples(Checks):
    def test_one_reader(self):
        self.gives(("a", "b", "a", "b"), "told_along", CUBE, TURNING, "a", "b", (0, 1, 2))
        self.gives(("b", "a", "a", "a"), "told_along", CUBE, TURNING, "b", "a", (0, 1, 2))
        self.gives((("a", "b"), (0, 1, 2)), "flicker", CUBE, TURNING)
        self.gives(True, "is_flicker", CUBE, TURNING, (("a", "b"), (0, 2, 1)))
        self.gives(False, "is_steady", CUBE, TURNING)

    def test_steady_ones(self):
        self.gives(18, "how_many_steady", CUBE)
        self.gives(1, "fewest_to_mend", CUBE, TURNING)
        self.gives(True, "is_steady", CUBE, self.result("mended", CUBE, TURNING))
        self.gives(True, "is_steady", CUBE, self.result("a_steady", CUBE))
        self.gives((((0, 0, 0),), ((1, 1, 1),)), "must_tell", CUBE, "a", "b")
        self.gives(True, "can_be_steady", CUBE, TURNING[3:5])
        self.gives(False, "can_be_steady", CUBE, TURNING[4:6])
        self.gives(True, "is_steady", CUBE, self.result("steady_with", CUBE, TURNING[3:5]))

    def test_square(self):
        told = (((0, 0), "a"), ((0, 1), "b"), ((1, 0), "d"), ((1, 1), "c"))
        self.gives(told, "a_steady", SQUARE)
        self.gives(1, "how_many_steady", SQUARE)
        self.gives((((1, 0),), ((1, 1),)), "must_tell", SQUARE, "d", "c")

    def test_errors(self):
        self.fails("NotJoined", {"one": "a", "other": "c"}, "must_tell", SQUARE, "a", "c")
        self.fails("NoReader", {}, "a_steady", REST)


class TestASteady(Checks):
    def test_steady_if_there_is_a_right_one(self):
        for chart in charts_to_try():
            reader = self.result("a_steady", chart)
            self.assertTrue(judging.is_told_right(chart, 1, reader))
            self.assertTrue(judging.is_steady(chart, reader))
            self.assertEqual([word for word, _ in reader], sorted(judging.may_tell(chart, 1)))
            self.assertEqual(repr(reader), repr(tuple((tuple(word), name) for word, name in reader)))
            self.gives(True, "is_steady", chart, reader)
            self.gives(None, "flicker", chart, reader)

    def test_drawn_charts(self):
        for chart in drawn_charts(26, 150, 5, (2, 3, 3, 2), 5):
            if judging.is_right(chart, 1):
                reader = function_called("a_steady")(chart)
                self.assertTrue(judging.is_told_right(chart, 1, reader))
                self.assertTrue(judging.is_steady(chart, reader))
                self.assertEqual([word for word, _ in reader], sorted(judging.may_tell(chart, 1)))
            else:
                with self.assertRaises(ValueError):
                    function_called("a_steady")(chart)

    def test_no_right_reader(self):
        for chart in wrong_charts():
            self.fails("NoReader", {}, "a_steady", chart)
            self.fails("NoReader", {}, "steady_with", chart, ())
            self.gives(False, "can_be_steady", chart, ())
            self.gives(0, "how_many_steady", chart)

    def test_six_fields_and_twelve_moves(self):
        reader = self.result("a_steady", FULL)
        self.assertEqual(len(reader), 8 + 12 * 62)
        self.assertTrue(judging.is_steady(FULL, reader))
        self.gives(True, "is_steady", FULL, reader)
        self.gives(None, "flicker", FULL, reader)

    def test_one_state(self):
        self.gives((((1,), "a"),), "a_steady", ALONE)
        self.gives(1, "how_many_steady", ALONE)


class TestIsSteady(Checks):
    def test_all_right_readers(self):
        for chart in charts_to_try():
            for reader in judging.right_readers(chart, 1):
                right = judging.is_steady(chart, reader)
                self.assertIs(function_called("is_steady")(chart, reader), right)

    def test_some_in_all_forms(self):
        for chart in charts_to_try():
            for reader in list(judging.right_readers(chart, 1))[::7]:
                self.gives(judging.is_steady(chart, reader), "is_steady", chart, reader)

    def test_readers_that_are_not_right(self):
        steady = self.result("a_steady", SQUARE)
        for at in range(4):
            self.gives(False, "is_steady", SQUARE, steady[:at] + steady[at + 1:])
            for name in "abcdx":
                told = (*steady[:at], (steady[at][0], name), *steady[at + 1:])
                self.gives(told == steady, "is_steady", SQUARE, told)
        self.gives(False, "is_steady", JOINED_TWINS, (((0,), "a"),))
        self.gives(False, "is_steady", REST, tuple(zip(CUBE_WORDS, "aacabbbb")))
        self.gives(False, "is_steady", CUBE, ())

    def test_other_words_may_be_told_too(self):
        chart = ((2, 3), (("a", (0, 0)), ("b", (1, 0))), (("a", "b"),))
        reader = (((0, 0), "a"), ((1, 0), "b"))
        self.gives(True, "is_steady", chart, reader)
        for name in "ab":
            self.gives(True, "is_steady", chart, (reader[0], ((0, 2), name), reader[1], ((1, 1), name)))

    def test_things_of_all_kinds(self):
        steady = self.result("a_steady", CUBE)
        for thing in PLAIN_THINGS:
            with self.subTest(repr(thing)[:60]):
                self.gives(False, "is_steady", CUBE, thing)
                self.gives(False, "is_steady", CUBE, (thing, *steady))
                self.gives(False, "is_steady", CUBE, (*steady[:-1], thing))
                self.gives(False, "is_steady", CUBE, (*steady[:-1], (thing, "b")))
                self.gives(False, "is_steady", CUBE, (*steady[:-1], (steady[-1][0], thing)))
                good = thing == 1 and thing is not True
                self.gives(good, "is_steady", CUBE, (*steady[:-1], ((1, 1, thing), "b")))
        self.gives(False, "is_steady", CUBE, lists(steady))
        self.gives(False, "is_steady", CUBE, [*steady])
        self.gives(False, "is_steady", CUBE, ([*steady[0]], *steady[1:]))
        self.gives(False, "is_steady", CUBE, steady[::-1])


class TestToldAlong(Checks):
    def test_all_orders(self):
        for chart in charts_to_try():
            for reader in list(judging.right_readers(chart, 1))[:40:9]:
                for one, other in chart[2]:
                    for order in judging.all_orders(chart, one, other):
                        for pair in ((one, other), (other, one)):
                            right = judging.told_in_order(chart, reader, *pair, order)
                            self.gives(right, "told_along", chart, reader, *pair, order)

    def test_six_fields(self):
        reader = self.result("a_steady", FULL)
        for order in list(permutations(range(6)))[::100]:
            right = judging.told_in_order(FULL, reader, "h", "a", order)
            self.gives(right, "told_along", FULL, reader, "h", "a", order)

    def test_one_field_and_none(self):
        self.gives(("a", "b"), "told_along", NEAR, (((0, 2), "a"), ((1, 2), "b")), "a", "b", (0,))
        self.gives(("b", "a"), "told_along", NEAR, (((0, 2), "a"), ((1, 2), "b")), "b", "a", (0,))
        for name in "ab":
            self.gives((name,), "told_along", JOINED_TWINS, (((0,), name),), "a", "b", ())

    def test_errors_in_their_order(self):
        reader = self.result("a_steady", SQUARE)
        self.fails("NoName", {"name": "x"}, "told_along", SQUARE, reader, "x", "y", (0,))
        self.fails("NoName", {"name": "y"}, "told_along", SQUARE, reader, "y", "x", (0,))
        self.fails("NoName", {"name": "x"}, "told_along", SQUARE, reader, "a", "x", (0, 1))
        self.fails("NoName", {"name": "x"}, "told_along", SQUARE, reader, "x", "a", ())
        self.fails("NotJoined", {"one": "a", "other": "c"}, "told_along", SQUARE, reader, "a", "c", (0, 1))
        self.fails("NotJoined", {"one": "d", "other": "b"}, "told_along", SQUARE, reader, "d", "b", (1, 0))
        self.fails("NotJoined", {"one": "a", "other": "a"}, "told_along", SQUARE, reader, "a", "a", ())
        self.fails("NoName", {"name": "x"}, "told_along", SQUARE, reader, "x", "x", ())


class TestFlicker(Checks):
    def test_the_least_one(self):
        for chart in charts_to_try():
            for reader in judging.right_readers(chart, 1):
                right = min(judging.flickers(chart, reader), default=None)
                found = function_called("flicker")(chart, reader)
                self.assertEqual(repr(found), repr(right))
                self.assertEqual(found is None, judging.is_steady(chart, reader))

    def test_some_in_all_forms(self):
        for chart in charts_to_try():
            for reader in list(judging.right_readers(chart, 1))[::9]:
                right = min(judging.flickers(chart, reader), default=None)
                self.gives(right, "flicker", chart, reader)

    def test_a_later_move_and_a_later_order(self):
        chart = ((3, 3), (("a", (0, 0)), ("b", (1, 0)), ("c", (0, 2)), ("d", (2, 1))), (("a", "b"), ("c", "d")))
        self.gives(None, "flicker", chart, (((0, 0), "a"), ((0, 1), "c"), ((0, 2), "c"), ((1, 0), "b"),
                                            ((2, 1), "d"), ((2, 2), "d")))
        reader = far_reader(3, lambda word: word == (0, 1, 0))
        self.gives((("a", "b"), (1, 0, 2)), "flicker", CUBE, reader)
        states = (("a", (0, 0, 0)), ("b", (4, 4, 4)), ("y", (1, 1, 1)), ("z", (2, 2, 2)))
        chart = ((5, 5, 5), states, (("a", "b"), ("y", "z")))
        told = {**dict(self.result("a_steady", chart)), (2, 1, 1): "z", (2, 1, 2): "y"}
        reader = tuple(sorted(told.items()))
        right = min(judging.flickers(chart, reader))
        self.assertEqual(right[0], ("y", "z"))
        self.gives(right, "flicker", chart, reader)

    def test_six_fields(self):
        reader = far_reader(6, lambda word: word == (0, 0, 0, 0, 0, 1))
        self.gives((("a", "b"), (5, 0, 1, 2, 3, 4)), "flicker", far_chart(6), reader)
        reader = far_reader(6, lambda word: word != (1, 1, 1, 1, 0, 1))
        self.gives((("a", "b"), (0, 1, 2, 3, 5, 4)), "flicker", far_chart(6), reader)

    def test_what_is_told_elsewhere_does_not_count(self):
        chart = ((3, 3), (("a", (0, 0)), ("b", (1, 1))), (("a", "b"),))
        steady = (((0, 0), "a"), ((0, 1), "a"), ((0, 2), "b"), ((1, 0), "b"), ((1, 1), "b"), ((2, 0), "a"))
        self.gives(None, "flicker", chart, steady)
        self.gives(True, "is_steady", chart, steady)


class TestIsFlicker(Checks):
    def test_all_moves_and_orders(self):
        for chart in charts_to_try():
            for reader in list(judging.right_readers(chart, 1))[::5]:
                flickers = judging.flickers(chart, reader)
                for one, other in chart[2]:
                    for order in judging.all_orders(chart, one, other):
                        right = ((one, other), order) in flickers
                        call = function_called("is_flicker")
                        self.assertIs(call(chart, reader, ((one, other), order)), right)
                        self.assertIs(call(chart, reader, ((other, one), order)), False)

    def test_orders_that_are_none(self):
        move = ("a", "b")
        for order in ((), (0,), (0, 1), (0, 1, 1), (0, 1, 2, 2), (0, 0, 1, 2), (0, 1, 3), (-1, 1, 2), (0, 1, 2, 3),
                      (False, 1, 2), (0, True, 2), [0, 1, 2], (0, 1, (2,)), (0, 1, "2"), (0, 1, None)):
            self.gives(False, "is_flicker", CUBE, TURNING, (move, order))
        for order in permutations(range(3)):
            right = (move, order) in judging.flickers(CUBE, TURNING)
            self.gives(right, "is_flicker", CUBE, TURNING, (move, order))

    def test_fields_alike_are_in_no_order(self):
        chart = ((2, 2, 2, 2), (("a", (0, 1, 0, 0)), ("b", (1, 1, 1, 1))), (("a", "b"),))
        told = tuple(sorted(((word[0], 1, word[1], word[2]), name) for word, name in TURNING))
        self.gives((("a", "b"), (0, 2, 3)), "flicker", chart, told)
        self.gives(True, "is_flicker", chart, told, (("a", "b"), (0, 3, 2)))
        for order in ((0, 1, 2), (0, 1, 2, 3), (1, 0, 2, 3), (0, 2), ()):
            self.gives(False, "is_flicker", chart, told, (("a", "b"), order))

    def test_moves_that_are_none(self):
        for move in (("b", "a"), ["a", "b"], ("a",), ("a", "b", "c"), ("a", "a"), ("a", "x"), ("x", "b"), "ab", ()):
            self.gives(False, "is_flicker", CUBE, TURNING, (move, (0, 1, 2)))

    def test_things_of_all_kinds(self):
        move, order = ("a", "b"), (0, 1, 2)
        self.gives(True, "is_flicker", CUBE, TURNING, (move, order))
        for thing in PLAIN_THINGS:
            with self.subTest(repr(thing)[:60]):
                self.gives(False, "is_flicker", CUBE, TURNING, thing)
                self.gives(False, "is_flicker", CUBE, TURNING, (thing, order))
                self.gives(False, "is_flicker", CUBE, TURNING, (move, thing))
                self.gives(False, "is_flicker", CUBE, TURNING, (move, order, thing))
                self.gives(thing == "a", "is_flicker", CUBE, TURNING, ((thing, "b"), order))
                good = thing == 1 and thing is not True
                self.gives(good, "is_flicker", CUBE, TURNING, (move, (0, thing, 2)))
        self.gives(False, "is_flicker", CUBE, TURNING, [move, order])
        self.gives(False, "is_flicker", CUBE, TURNING, lists((move, order)))

    def test_steady_readers_have_none(self):
        reader = self.result("a_steady", CUBE)
        for order in permutations(range(3)):
            self.gives(False, "is_flicker", CUBE, reader, (("a", "b"), order))
        self.gives(False, "is_flicker", NEAR, (((0, 2), "a"), ((1, 2), "b")), (("a", "b"), (0,)))
        self.gives(False, "is_flicker", ALONE, (((1,), "a"),), (("a", "a"), ()))


class TestMustTell(Checks):
    def test_against_all_right_readers(self):
        for chart in charts_to_try():
            readers = [dict(reader) for reader in judging.right_readers(chart, 1)]
            for one, other in [*chart[2], *((other, one) for one, other in chart[2])]:
                words = [word for word in judging.all_words(chart) if judging.is_shown(chart, (one, other), word)]
                right = tuple(tuple(word for word in words if all(told[word] == name for told in readers))
                              for name in (one, other))
                self.gives(right, "must_tell", chart, one, other)

    def test_words_in_both_boxes(self):
        first, second = self.result("must_tell", FORKED, "a", "b")
        self.assertEqual(first, ((0, 0, 0, 0), (0, 0, 1, 0)))
        self.assertEqual(second, ((1, 1, 1, 0),))
        self.gives((second, first), "must_tell", FORKED, "b", "a")
        self.gives((((0, 2),), ((1, 2),)), "must_tell", NEAR, "a", "b")

    def test_errors_in_their_order(self):
        for chart in (SQUARE, *wrong_charts()):
            self.fails("NoName", {"name": "x"}, "must_tell", chart, "x", "y")
            self.fails("NoName", {"name": "y"}, "must_tell", chart, "y", "x")
            self.fails("NoName", {"name": "x"}, "must_tell", chart, "a", "x")
            self.fails("NoName", {"name": "x"}, "must_tell", chart, "x", "a")
            self.fails("NotJoined", {"one": "b", "other": "b"}, "must_tell", chart, "b", "b")
        self.fails("NotJoined", {"one": "a", "other": "b"}, "must_tell", TWINS, "a", "b")
        self.fails("NotJoined", {"one": "c", "other": "b"}, "must_tell", REST, "c", "b")
        self.fails("NoReader", {}, "must_tell", REST, "a", "b")
        self.fails("NoReader", {}, "must_tell", REST, "b", "a")
        self.fails("NoReader", {}, "must_tell", JOINED_TWINS, "a", "b")


class TestKept(Checks):
    def check(self, chart, kept, steady):
        """What is asked for with these pairs, steady being all steady READERS."""
        right = any(set(kept) <= set(reader) for reader in steady)
        self.gives(right, "can_be_steady", chart, kept)
        if not right:
            self.fails("NoReader", {}, "steady_with", chart, kept)
        else:
            self.assertIn(self.result("steady_with", chart, kept), steady)
            self.assertLessEqual(set(kept), set(self.result("steady_with", chart, kept)))

    def test_few_pairs(self):
        for chart in charts_to_try():
            steady = [reader for reader in judging.right_readers(chart, 1) if judging.is_steady(chart, reader)]
            pairs = list(product(sorted(judging.may_tell(chart, 1)), judging.named(chart)))
            self.check(chart, (), steady)
            for pair in pairs:
                self.check(chart, (pair,), steady)
            for one, other in list(combinations(pairs, 2))[::1 + len(pairs) // 3]:
                if one[0] != other[0]:
                    self.check(chart, (one, other), steady)

    def test_many_pairs(self):
        draw = random.Random(27)
        for chart in charts_to_try():
            readers = list(judging.right_readers(chart, 1))
            steady = [reader for reader in readers if judging.is_steady(chart, reader)]
            for _ in range(5):
                reader = draw.choice(readers)
                self.check(chart, tuple(pair for pair in reader if draw.random() < 0.6), steady)
                self.check(chart, reader, steady)

    def test_all_that_can_be_kept_in_a_cube(self):
        readers = list(judging.right_readers(CUBE, 1))
        steady = [reader for reader in readers if judging.is_steady(CUBE, reader)]
        self.assertEqual(len(steady), 18)
        can = function_called("can_be_steady")
        for names in product("ab ", repeat=8):
            kept = tuple(pair for pair in zip(CUBE_WORDS, names) if pair[1] != " ")
            self.assertIs(can(CUBE, kept), any(set(kept) <= set(reader) for reader in steady))

    def test_what_no_right_reader_tells(self):
        self.gives(False, "can_be_steady", CUBE, (((0, 0, 0), "b"),))
        self.gives(False, "can_be_steady", SQUARE, (((0, 0), "d"),))
        self.fails("NoReader", {}, "steady_with", SQUARE, (((0, 0), "d"),))
        self.gives(False, "can_be_steady", REST, (((0, 0, 0), "a"),))
        self.fails("NoReader", {}, "steady_with", REST, (((0, 0, 0), "a"),))

    def test_six_fields(self):
        one, other = (0, 7, 0, 0, 0, 0), (0, 7, 0, 7, 0, 0)
        chart = (FULL[0], (FULL[1][0], FULL[1][7]), (("a", "h"),))
        self.gives(False, "can_be_steady", chart, ((one, "h"), (other, "a")))
        self.gives(True, "can_be_steady", chart, ((one, "a"), (other, "h")))
        reader = self.result("steady_with", chart, ((one, "h"), (other, "h")))
        self.assertTrue(judging.is_steady(chart, reader))
        told = dict(reader)
        self.assertTrue(all(told[word] == "h" for word in told if word[1] == 7))
        beside = (7, 0, 7, 0, 7, 7)
        self.gives(True, "can_be_steady", chart, ((one, "h"), (beside, "a")))
        self.gives(True, "can_be_steady", chart, ((one, "a"), (beside, "h")))


class TestCounts(Checks):
    def test_against_all_readers(self):
        for chart in charts_to_try():
            readers = list(judging.right_readers(chart, 1))
            steady = [reader for reader in readers if judging.is_steady(chart, reader)]
            self.gives(len(steady), "how_many_steady", chart)
            for reader in readers[::1 + len(readers) // 8]:
                self.check_mended(chart, reader, steady)

    def check_mended(self, chart, reader, steady):
        fewest = min(judging.unlike(reader, other) for other in steady)
        self.gives(fewest, "fewest_to_mend", chart, reader)
        better = self.result("mended", chart, reader)
        self.assertIn(better, steady)
        self.assertEqual(judging.unlike(reader, better), fewest)

    def test_all_readers_of_a_cube(self):
        readers = list(judging.right_readers(CUBE, 1))
        steady = [reader for reader in readers if judging.is_steady(CUBE, reader)]
        for reader in readers:
            self.check_mended(CUBE, reader, steady)

    def test_one_to_four_fields(self):
        # The up-sets of the WORDS between both, without the two that are one and the same.
        for fields, many in ((1, 1), (2, 4), (3, 18), (4, 166)):
            self.gives(many, "how_many_steady", far_chart(fields))
        chart = (FULL[0][:3], tuple((name, word[:3]) for name, word in FULL[1]), FULL[2])
        self.gives(18 ** 12, "how_many_steady", chart)
        chart = (FULL[0][:4], tuple((name, word[:4]) for name, word in FULL[1]), FULL[2])
        self.gives(166 ** 12, "how_many_steady", chart)

    def test_four_fields_mended(self):
        readers = [tuple(zip(product(range(2), repeat=4), told)) for told in product("ab", repeat=16)
                   if told[0] == "a" and told[15] == "b"]
        chart = far_chart(4)
        steady = [reader for reader in readers if is_rising(reader)]
        self.assertEqual(len(steady), 166)
        for reader in random.Random(28).sample(readers, 40):
            self.check_mended(chart, reader, steady)

    def test_mended_over_six_fields(self):
        chart = far_chart(6)
        turned = far_reader(6, lambda word: word[0] == 0)
        single = far_reader(6, lambda word: sum(word) == 1)
        low = far_reader(6, lambda word: sum(word) in (1, 2))
        steady = far_reader(6, lambda word: sum(word) > 3)
        for reader, fewest in ((turned, 30), (single, 6), (low, 21), (steady, 0)):
            self.gives(fewest, "fewest_to_mend", chart, reader)
            better = self.result("mended", chart, reader)
            self.assertTrue(is_rising(better))
            self.assertTrue(judging.is_told_right(chart, 1, better))
            self.assertEqual(judging.unlike(reader, better), fewest)

    def test_steady_ones_stay(self):
        for chart in charts_to_try():
            reader = self.result("a_steady", chart)
            self.gives(0, "fewest_to_mend", chart, reader)
            self.gives(reader, "mended", chart, reader)

    def test_what_is_told_elsewhere_is_left_out(self):
        chart = ((3, 3), (("a", (0, 0)), ("b", (1, 1))), (("a", "b"),))
        kept = (((0, 0), "a"), ((0, 1), "b"), ((1, 0), "a"), ((1, 1), "b"))
        reader = (kept[0], kept[1], ((0, 2), "b"), kept[2], kept[3], ((2, 0), "a"), ((2, 2), "b"))
        self.gives(0, "fewest_to_mend", chart, reader)
        self.gives(kept, "mended", chart, reader)

    def test_what_must_be_told_is_not_mended(self):
        # a must be told at 0 0 1 0, so ahead of it, too, wherever b was told.
        told = {word: able[0] for word, able in judging.may_tell(FORKED, 1).items()}
        steady = [reader for reader in judging.right_readers(FORKED, 1) if judging.is_steady(FORKED, reader)]
        for word in told:
            for name in judging.may_tell(FORKED, 1)[word]:
                self.check_mended(FORKED, tuple(sorted({**told, word: name}.items())), steady)


def is_rising(reader):
    """Whether b is told at all WORDS behind those at which it is told, of two states that are all unlike."""
    late = [word for word, name in reader if name == "b"]
    return not any(name == "a" and any(is_behind(word, one) for one in late) for word, name in reader)


def is_behind(word, other):
    return all(value >= least for value, least in zip(word, other))


class TestGuarantees(Checks):
    def test_steady_exactly_if_no_word_behind_turns_back(self):
        for chart in charts_to_try():
            words = dict(chart[1])
            for reader in judging.right_readers(chart, 1):
                told, turns_back = dict(reader), False
                for one, other in chart[2]:
                    goal = words[other]
                    box = [word for word in told if judging.is_shown(chart, (one, other), word)]
                    for early, late in product(box, box):
                        has_all = all(late[at] == goal[at] for at in range(len(goal)) if early[at] == goal[at])
                        turns_back = turns_back or (has_all and told[early] == other and told[late] == one)
                self.assertEqual(function_called("is_steady")(chart, reader), not turns_back)

    def test_where_either_may_be_told_there_is_no_other_event(self):
        for chart in (*charts_to_try(), *drawn_charts(29, 60, 5, (3, 2, 3), 4)):
            if judging.is_right(chart, 1):
                for word, able in judging.may_tell(chart, 1).items():
                    if len(able) == 2:
                        self.assertEqual(judging.showing(chart, 1, word), [able])


if __name__ == "__main__":
    unittest.main()
