"""Walks and EVENTS, point [5]."""

import unittest
from itertools import product
from math import comb

from tests.helping import ALONE, KITE, LETTERS, PLAIN_THINGS, SQUARE, Checks
from tests.helping import great_chart, ring, sets_of, small_charts

STILL = (*SQUARE[:2], ())
# A middle state with nine around it.
STAR = ((10,), tuple((name, (at,)) for at, name in enumerate("abcdefghij")), tuple(("a", name) for name in "bcdefghij"))


def named(chart):
    return [name for name, _ in chart[1]]


def all_walks(chart, many):
    """All walks of just so many moves, found by trying all rows of NAMES."""
    both = {*chart[2], *((other, one) for one, other in chart[2])}
    rows = product(named(chart), repeat=many + 1)
    return [row for row in rows if all(pair in both for pair in zip(row, row[1:]))]


def all_events(chart, long):
    walks = [walk for many in range(long + 1) for walk in all_walks(chart, many)]
    return tuple(sorted({tuple(sorted(set(walk))) for walk in walks}))


class TestExamples(Checks):
    def test_events(self):
        self.gives((("a",), ("b",), ("c",), ("d",)), "events", SQUARE, 0)
        over_one = (("a",), ("a", "b"), ("a", "d"), ("b",), ("b", "c"), ("c",), ("c", "d"), ("d",))
        self.gives(over_one, "events", SQUARE, 1)
        self.assertEqual(len(self.result("events", SQUARE, 2)), 12)
        self.gives((("a", "b", "c"), ("a", "c", "d")), "events_with", SQUARE, 2, ("a", "c"))

    def test_things(self):
        self.gives(True, "is_walk", SQUARE, ("a", "b", "a"))
        self.gives(False, "is_walk", SQUARE, ("a", "c"))
        self.gives(False, "is_walk", SQUARE, ())
        self.gives(True, "is_event", SQUARE, 2, ("a", "b", "d"))
        self.gives(False, "is_event", SQUARE, 1, ("a", "b", "d"))
        self.gives(False, "is_event", SQUARE, 2, ("a", "c"))
        self.gives(None, "walk_of", SQUARE, 2, ("a", "c"))
        self.assertEqual(len(self.result("walk_of", SQUARE, 2, ("a", "b", "d"))), 3)

    def test_walks(self):
        self.gives(2, "how_many_walks", SQUARE, "a", "c", 2)
        self.gives(1, "how_many_walks", SQUARE, "a", "a", 0)
        self.gives(4, "how_many_walks", SQUARE, "a", "b", 3)
        self.gives(0, "how_many_walks", SQUARE, "a", "b", 4)
        self.gives(2, "moves_apart", SQUARE, "a", "c")
        self.gives(("a", "b", "c"), "shortest_walk", SQUARE, "a", "c")
        self.gives(("b",), "shortest_walk", SQUARE, "b", "b")
        self.gives(None, "moves_apart", STILL, "a", "b")
        self.gives(None, "shortest_walk", STILL, "a", "b")
        self.fails("NoName", {"name": "x"}, "moves_apart", SQUARE, "a", "x")


class TestIsWalk(Checks):
    def test_walks_of_no_moves_and_names_twice(self):
        for chart in (ALONE, STILL, SQUARE, KITE):
            for name in named(chart):
                self.gives(True, "is_walk", chart, (name,))
                self.gives(False, "is_walk", chart, (name, name))

    def test_all_short_rows(self):
        for chart in list(small_charts())[::5]:
            for many in range(3):
                walks = all_walks(chart, many)
                for row in product("abcd", repeat=many + 1):
                    self.gives(row in walks, "is_walk", chart, row)

    def test_a_wrong_name_at_each_place(self):
        walk = ("a", "b", "c", "d", "a")
        self.gives(True, "is_walk", SQUARE, walk)
        for place in range(5):
            for wrong in ("x", "", "aa", None, True, 0, 1, ["a"], ("a",), [], ()):
                self.gives(False, "is_walk", SQUARE, walk[:place] + (wrong,) + walk[place + 1:])

    def test_the_last_step_counts(self):
        self.gives(False, "is_walk", SQUARE, ("a", "b", "c", "b", "d"))
        self.gives(False, "is_walk", SQUARE, ("a", "c", "b", "a", "d"))
        self.gives(True, "is_walk", SQUARE, ("c", "b", "c", "b", "a", "d", "c"))

    def test_things_of_all_kinds(self):
        for thing in PLAIN_THINGS:
            with self.subTest(repr(thing)[:60]):
                self.gives(thing == ("b", "a"), "is_walk", SQUARE, thing)
        self.gives(False, "is_walk", SQUARE, ["a", "b"])
        self.gives(False, "is_walk", SQUARE, "ab")
        self.gives(False, "is_walk", SQUARE, "a")
        self.gives(False, "is_walk", SQUARE, ("ab",))
        self.gives(False, "is_walk", SQUARE, (("a", "b"),))

    def test_long_walks(self):
        self.gives(True, "is_walk", SQUARE, ("a", "b", "c", "d") * 2000)
        self.gives(False, "is_walk", SQUARE, ("a", "b", "c", "d") * 2000 + ("c", "a"))
        self.gives(True, "is_walk", great_chart(), tuple(LETTERS[:20]) * 50)


class TestCountedWalks(Checks):
    def test_all_moves_of_four_states(self):
        for chart in list(small_charts())[::3]:
            for many in range(4):
                walks = all_walks(chart, many)
                for one, other in product("abcd", repeat=2):
                    found = [walk for walk in walks if walk[0] == one and walk[-1] == other]
                    self.gives(len(found), "how_many_walks", chart, one, other, many)

    def test_walks_of_no_moves(self):
        for one, other in product("abcde", repeat=2):
            self.gives(1 if one == other else 0, "how_many_walks", KITE, one, other, 0)

    def test_one_state(self):
        self.gives(1, "how_many_walks", ALONE, "a", "a", 0)
        self.gives(0, "how_many_walks", ALONE, "a", "a", 1)
        self.gives(0, "how_many_walks", ALONE, "a", "a", 60)

    def test_sixty_moves(self):
        pair = ((2,), (("a", (0,)), ("b", (1,))), (("a", "b"),))
        self.gives(1, "how_many_walks", pair, "a", "a", 60)
        self.gives(0, "how_many_walks", pair, "a", "b", 60)
        self.gives(1, "how_many_walks", pair, "a", "b", 59)
        # Around a ring of ten, moves on less moves back are a multiple of ten.
        around = sum(comb(60, on) for on in range(61) if (on - (60 - on)) % 10 == 0)
        self.gives(around, "how_many_walks", ring(10), "a", "a", 60)
        aside = sum(comb(60, on) for on in range(61) if (on - (60 - on)) % 10 == 4)
        self.gives(aside, "how_many_walks", ring(10), "a", "e", 60)
        self.gives(9 ** 30, "how_many_walks", STAR, "a", "a", 60)
        self.gives(9 ** 29, "how_many_walks", STAR, "b", "j", 60)
        self.gives((19 ** 60 + 19) // 20, "how_many_walks", great_chart(), "t", "t", 60)

    def test_no_such_state(self):
        self.fails("NoName", {"name": "x"}, "how_many_walks", SQUARE, "x", "y", 0)
        self.fails("NoName", {"name": "x"}, "how_many_walks", SQUARE, "a", "x", 2)
        self.fails("NoName", {"name": "x"}, "how_many_walks", SQUARE, "x", "a", 60)
        self.fails("NoName", {"name": "x"}, "how_many_walks", SQUARE, "x", "x", 0)


class TestShortestWalks(Checks):
    def test_all_moves_of_four_states(self):
        for chart in small_charts():
            walks = [walk for many in range(4) for walk in all_walks(chart, many)]
            for one, other in product("abcd", repeat=2):
                found = [walk for walk in walks if walk[0] == one and walk[-1] == other]
                least = min(found, key=lambda walk: (len(walk), walk), default=None)
                self.gives(least, "shortest_walk", chart, one, other)
                apart = None if least is None else len(least) - 1
                self.gives(apart, "moves_apart", chart, one, other)

    def test_the_least_of_several(self):
        self.gives(("c", "b", "a"), "shortest_walk", SQUARE, "c", "a")
        self.gives(("d", "a", "b"), "shortest_walk", SQUARE, "d", "b")
        # From a by b or c, then by the other ones: what stands first decides.
        moves = (("a", "b"), ("a", "c"), ("b", "e"), ("c", "d"), ("d", "f"), ("e", "f"))
        chart = ((2,), tuple((name, (0,)) for name in "abcdef"), moves)
        self.gives(("a", "b", "e", "f"), "shortest_walk", chart, "a", "f")
        self.gives(("f", "d", "c", "a"), "shortest_walk", chart, "f", "a")

    def test_long_ways(self):
        self.gives(tuple("abcdef"), "shortest_walk", ring(10), "a", "f")
        self.gives(tuple("fedcba"), "shortest_walk", ring(10), "f", "a")
        self.gives(("b", "a", "j", "i", "h"), "shortest_walk", ring(10), "b", "h")
        self.gives(5, "moves_apart", ring(10), "j", "e")
        self.gives(4, "moves_apart", ring(10), "b", "h")
        row = (*ring(20)[:2], tuple(move for move in ring(20)[2] if move != ("a", "t")))
        self.gives(19, "moves_apart", row, "t", "a")
        self.gives(tuple(LETTERS[:20]), "shortest_walk", row, "a", "t")
        self.gives(1, "moves_apart", great_chart(), "a", "t")
        self.gives(2, "moves_apart", STAR, "b", "j")

    def test_no_walk(self):
        self.gives(None, "moves_apart", KITE, "a", "e")
        self.gives(None, "moves_apart", KITE, "e", "d")
        self.gives(None, "shortest_walk", KITE, "a", "e")
        self.gives(None, "shortest_walk", KITE, "e", "d")

    def test_the_same_state(self):
        for chart in (ALONE, STILL, KITE, great_chart()):
            for name in named(chart):
                self.gives(0, "moves_apart", chart, name, name)
                self.gives((name,), "shortest_walk", chart, name, name)

    def test_no_such_state(self):
        for name in ("moves_apart", "shortest_walk"):
            self.fails("NoName", {"name": "x"}, name, SQUARE, "a", "x")
            self.fails("NoName", {"name": "x"}, name, SQUARE, "x", "a")
            self.fails("NoName", {"name": "y"}, name, SQUARE, "y", "x")
            self.fails("NoName", {"name": "x"}, name, SQUARE, "x", "y")
            self.fails("NoName", {"name": "x"}, name, SQUARE, "x", "x")


class TestEvents(Checks):
    def test_all_moves_of_four_states(self):
        for chart in small_charts():
            for long in range(3):
                self.gives(all_events(chart, long), "events", chart, long)

    def test_without_moves(self):
        for long in range(3):
            self.gives((("a",),), "events", ALONE, long)
            self.gives((("a",), ("b",), ("c",), ("d",)), "events", STILL, long)

    def test_around_and_beside(self):
        for chart in (KITE, ring(3), ring(5)):
            for long in range(3):
                self.gives(all_events(chart, long), "events", chart, long)

    def test_many_events(self):
        self.assertEqual(len(self.result("events", STAR, 0)), 10)
        self.assertEqual(len(self.result("events", STAR, 1)), 19)
        self.assertEqual(len(self.result("events", STAR, 2)), 19 + 36)
        self.gives(tuple(sorted(sets_of(LETTERS[:20], 1), key=len)[:20]), "events", great_chart(), 0)

    def test_is_event(self):
        for chart in (SQUARE, KITE, STILL):
            for long in range(3):
                right = all_events(chart, long)
                for some in sets_of(named(chart), 0):
                    self.gives(some in right, "is_event", chart, long, some)

    def test_no_sets(self):
        for thing in (("b", "a"), ("a", "a"), ("a", "b", "a"), ("a", "a", "b"), ("b", "a", "d"), ["a"], ["a", "b"]):
            for long in range(3):
                self.gives(False, "is_event", SQUARE, long, thing)

    def test_things_of_all_kinds(self):
        for thing in PLAIN_THINGS:
            for long in range(3):
                with self.subTest(repr(thing)[:60]):
                    self.gives(False, "is_event", SQUARE, long, thing)
                    self.gives(thing == "a" and long > 0, "is_event", SQUARE, long, (thing, "b"))
                    self.gives(thing == "a", "is_event", SQUARE, long, (thing,))
                    self.gives(thing == "a" and long > 0, "is_event", KITE, long, (thing, "c"))


class TestEventsWith(Checks):
    def test_all_sets(self):
        for chart in (ALONE, SQUARE, KITE, STILL, *list(small_charts())[::8]):
            for long in range(3):
                for some in sets_of(named(chart), 0):
                    right = [event for event in all_events(chart, long) if set(some) <= set(event)]
                    self.gives(tuple(right), "events_with", chart, long, some)

    def test_no_such_state(self):
        for long in range(3):
            self.fails("NoName", {"name": "x"}, "events_with", SQUARE, long, ("x",))
            self.fails("NoName", {"name": "bb"}, "events_with", SQUARE, long, ("b", "bb", "x"))
            self.fails("NoName", {"name": "x"}, "events_with", SQUARE, long, ("a", "b", "c", "d", "x", "y"))


class TestWalkOf(Checks):
    def check(self, chart, long, some):
        walk = self.result("walk_of", chart, long, some)
        if some not in all_events(chart, long):
            self.assertIsNone(walk)
        else:
            self.gives(True, "is_walk", chart, walk)
            self.assertLessEqual(len(walk), long + 1)
            self.assertEqual(tuple(sorted(set(walk))), some)

    def test_all_sets(self):
        for chart in (ALONE, SQUARE, KITE, STILL, ring(3), *list(small_charts())[::4]):
            for long in range(3):
                for some in sets_of(named(chart), 1):
                    self.check(chart, long, some)

    def test_great_chart(self):
        self.assertEqual(sorted(self.result("walk_of", great_chart(), 2, ("c", "h", "t"))), ["c", "h", "t"])
        self.gives(None, "walk_of", great_chart(), 1, ("c", "h", "t"))

    def test_no_such_state(self):
        for long in range(3):
            self.fails("NoName", {"name": "x"}, "walk_of", SQUARE, long, ("x",))
            self.fails("NoName", {"name": "aa"}, "walk_of", SQUARE, long, ("a", "aa", "x"))


if __name__ == "__main__":
    unittest.main()
