"""Told orders, point [15]."""

import unittest
from itertools import combinations, permutations, product

from tests import judging
from tests.helping import ALONE, KITE, PLAIN_THINGS, SQUARE, Checks
from tests.helping import drawn_charts, function_called, lists, ring, small_charts

CUBE = ((2, 2, 2), (("a", (0, 0, 0)), ("b", (1, 1, 1))), (("a", "b"),))
REST = (CUBE[0], (*CUBE[1], ("c", (0, 1, 0))), CUBE[2])
THREE = (
    (2, 2, 2),
    (("a", (0, 0, 1)), ("b", (0, 1, 0)), ("c", (1, 0, 0))),
    (("a", "b"), ("a", "c"), ("b", "c")),
)
LOOSE = (
    (2,) * 5,
    (("a", (0, 0, 0, 0, 0)), ("b", (0, 1, 1, 1, 0)), ("c", (0, 1, 0, 0, 1)), ("d", (1, 1, 1, 0, 0))),
    (("a", "b"), ("a", "d"), ("b", "c")),
)
SLACK = (
    (2,) * 5,
    (("a", (0, 1, 0, 0, 0)), ("b", (0, 0, 1, 1, 0)), ("c", (0, 0, 0, 0, 1)), ("d", (1, 0, 1, 0, 0))),
    (("a", "b"), ("a", "d"), ("b", "c")),
)
TWINS = ((2,), (("a", (0,)), ("b", (0,))), ())
JOINED_TWINS = (*TWINS[:2], (("a", "b"),))
# WORDS that are unlike at one field, and WORDS that are alike at one.
NEAR = ((3, 3, 3), (("a", (0, 1, 2)), ("b", (0, 2, 2)), ("c", (2, 2, 1))), (("a", "b"), ("b", "c")))
WIDE = ((2,) * 6, (("a", (0,) * 6), ("b", (1,) * 6), ("c", (0, 1) * 3)), (("a", "b"),))


# In the row from a to b, or back, one move more tells early, or late, what is to be told.
HALF_LOOSE = tuple((chart[0], tuple(state for state in chart[1] if state[0] != name),
                    tuple(move for move in chart[2] if name not in move)) for chart in (LOOSE, SLACK) for name in "cd")
# All three moves are shown at 0 0 0, where d is at rest.
FOUR = (THREE[0], (*THREE[1], ("d", (0, 0, 0))), THREE[2])


def turned(chart, places):
    """The CHART with its fields at other places, and their order from 0 on told by these."""
    states = tuple((name, tuple(word[place] for place in places)) for name, word in chart[1])
    sizes = tuple(chart[0][place] for place in places)
    return (sizes, states, chart[2]), tuple(places.index(field) for field in range(len(places)))


def cases():
    """CHARTS, each with some orders."""
    for chart in (ALONE, SQUARE, KITE, CUBE, REST, THREE, NEAR, TWINS, JOINED_TWINS, ring(3), ring(4)):
        for order in permutations(range(len(chart[0]))):
            yield chart, order
    for chart in (*list(small_charts())[::5], *drawn_charts(71, 30, 5, (2, 3), 5)):
        yield chart, (0, 1)
        yield chart, (1, 0)
    for at, chart in enumerate((*drawn_charts(72, 30, 4, (2, 2, 2), 4), *drawn_charts(73, 20, 4, (3, 2, 4), 3))):
        yield chart, list(permutations(range(3)))[at % 6]
    for at, chart in enumerate(drawn_charts(74, 15, 4, (2, 2, 2, 2), 3)):
        yield chart, list(permutations(range(4)))[at * 5 % 24]
    for at, places in enumerate(permutations(range(5))):
        if at % 17 == 0:
            yield turned(LOOSE, places)
            yield turned(SLACK, places)
        if at % 7 == 0:
            yield turned(HALF_LOOSE[at % 4], places)
    yield LOOSE, (3, 1, 0, 4, 2)
    yield WIDE, (5, 3, 1, 0, 2, 4)


class TestExamples(Checks):
    def test_rows(self):
        row = ((0, 0, 0), (1, 0, 0), (1, 1, 0), (1, 1, 1))
        self.gives(row, "row_by", CUBE, "a", "b", (0, 1, 2))
        back = ((1, 1, 1), (0, 1, 1), (0, 0, 1), (0, 0, 0))
        self.gives(back, "row_by", CUBE, "b", "a", (0, 1, 2))
        shown = ((0, 0, 0), (0, 0, 1), (0, 1, 1), (1, 0, 0), (1, 1, 0), (1, 1, 1))
        self.gives(shown, "shown_by", CUBE, (0, 1, 2))
        row = ((0, 0, 0, 0, 0), (0, 1, 0, 0, 0), (0, 1, 1, 0, 0), (0, 1, 1, 1, 0))
        self.gives(row, "row_by", LOOSE, "a", "b", (0, 1, 2, 3, 4))
        self.fails("NotJoined", {"one": "a", "other": "c"}, "row_by", REST, "a", "c", (0, 1, 2))

    def test_rest(self):
        self.gives(True, "has_right_by", REST, (0, 1, 2))
        self.gives(False, "has_right_by", REST, (1, 0, 2))
        self.gives(((0, 1, 0), (("a", "b"), ("c",))), "bar_by", REST, (1, 0, 2))
        self.gives(None, "bar_by", REST, (0, 1, 2))
        self.gives(((0, 1, 2), (2, 1, 0)), "right_orders", REST)
        self.gives(((0, 1, 2), (2, 1, 0)), "steady_orders", REST)
        self.gives(False, "is_bar_by", REST, (0, 1, 2), ((0, 1, 0), (("a", "b"), ("c",))))

    def test_three(self):
        around = (("a", "b"), ("a", "c"), ("b", "c"))
        self.gives(((0, 0, 0), around), "bar_by", THREE, (0, 1, 2))
        self.gives(True, "is_bar_by", THREE, (0, 1, 2), ((0, 0, 0), around))
        self.gives((), "right_orders", THREE)
        self.fails("NoReader", {}, "a_reader_by", THREE, (0, 1, 2))

    def test_readers(self):
        order = (0, 1, 2)
        self.gives(True, "is_steady_by", CUBE, order, self.result("a_steady_by", CUBE, order))
        self.gives(True, "is_reader_by", REST, order, self.result("a_reader_by", REST, order))
        self.gives(True, "has_steady_by", REST, order)
        self.gives(True, "has_right_by", LOOSE, (0, 1, 2, 3, 4))
        self.gives(False, "has_steady_by", LOOSE, (0, 1, 2, 3, 4))


class TestRows(Checks):
    def test_each_move_both_ways(self):
        for chart, order in cases():
            for one, other in judging.both_ways(chart):
                self.gives(judging.row_by(chart, one, other, order), "row_by", chart, one, other, order)

    def test_words_that_are_alike(self):
        self.gives(((0,),), "row_by", JOINED_TWINS, "a", "b", (0,))
        self.gives(((0,),), "row_by", JOINED_TWINS, "b", "a", (0,))
        for order in permutations(range(3)):
            self.gives(((0, 1, 2), (0, 2, 2)), "row_by", NEAR, "a", "b", order)
            self.gives(((0, 2, 2), (0, 1, 2)), "row_by", NEAR, "b", "a", order)
        self.gives(((0, 2, 2), (0, 2, 1), (2, 2, 1)), "row_by", NEAR, "b", "c", (2, 1, 0))
        self.gives(((2, 2, 1), (2, 2, 2), (0, 2, 2)), "row_by", NEAR, "c", "b", (2, 1, 0))

    def test_errors_and_their_order(self):
        self.fails("NoName", {"name": "x"}, "row_by", REST, "x", "a", (0, 1, 2))
        self.fails("NoName", {"name": "x"}, "row_by", REST, "a", "x", (0, 1, 2))
        self.fails("NoName", {"name": "y"}, "row_by", REST, "y", "x", (0, 1, 2))
        self.fails("NotJoined", {"one": "c", "other": "b"}, "row_by", REST, "c", "b", (0, 1, 2))
        self.fails("NotJoined", {"one": "a", "other": "a"}, "row_by", REST, "a", "a", (0, 1, 2))
        with self.assertRaises(LookupError):
            function_called("row_by")(REST, "x", "a", (0, 1, 2))
        with self.assertRaises(ValueError):
            function_called("row_by")(REST, "a", "c", (0, 1, 2))

    def test_shown(self):
        for chart, order in cases():
            self.gives(tuple(judging.showing_by(chart, order)), "shown_by", chart, order)
        self.gives(((1,),), "shown_by", ALONE, (0,))
        self.gives(((0,),), "shown_by", JOINED_TWINS, (0,))


class TestRight(Checks):
    def test_against_what_is_shown(self):
        for chart, order in cases():
            right = all(judging.may_by(chart, order).values())
            self.gives(right, "has_right_by", chart, order)
            if not right:
                self.fails("NoReader", {}, "a_reader_by", chart, order)
                continue
            reader = self.result("a_reader_by", chart, order)
            self.assertTrue(judging.is_right_by(chart, order, reader))
            self.assertEqual([word for word, _ in reader], list(judging.showing_by(chart, order)))
            self.assertEqual(repr(reader), repr(tuple((tuple(word), name) for word, name in reader)))
            self.gives(True, "is_reader_by", chart, order, reader)

    def test_against_all_readers(self):
        for chart in (CUBE, REST, TWINS, JOINED_TWINS, SQUARE, *drawn_charts(75, 12, 3, (2, 2), 3)):
            words = judging.all_words(chart)
            for order in list(permutations(range(len(chart[0]))))[:2]:
                found = False
                # Of a CHART of more WORDS, the READERS that tell at the first six of them.
                for names in product([None, *judging.named(chart)], repeat=min(len(words), 6)):
                    reader = tuple(pair for pair in zip(words, names) if pair[1] is not None)
                    right = judging.is_right_by(chart, order, reader)
                    found = found or right
                    self.assertIs(function_called("is_reader_by")(chart, order, reader), right)
                if len(words) <= 6:
                    self.gives(found, "has_right_by", chart, order)

    def test_the_error_has_its_builtin_base_class(self):
        for name in ("a_reader_by", "a_steady_by"):
            with self.assertRaises(ValueError):
                function_called(name)(THREE, (0, 1, 2))


class TestBarBy(Checks):
    def least_bar(self, chart, order):
        for word, some in judging.showing_by(chart, order).items():
            for many in (2, 3):
                for family in combinations(some, many):
                    if not judging.common(family):
                        return word, family
        return None

    def test_the_least_one(self):
        for chart, order in cases():
            right = self.least_bar(chart, order)
            self.gives(right, "bar_by", chart, order)
            if right:
                self.gives(True, "is_bar_by", chart, order, right)

    def test_edges(self):
        self.gives(None, "bar_by", ALONE, (0,))
        self.gives(((0,), (("a",), ("b",))), "bar_by", TWINS, (0,))
        self.gives(((0,), (("a",), ("b",))), "bar_by", JOINED_TWINS, (0,))

    def test_two_events_come_ahead_of_three(self):
        three = (("a", "b"), ("a", "c"), ("b", "c"))
        self.gives(((0, 0, 0), (("a", "b"), ("d",))), "bar_by", FOUR, (0, 1, 2))
        self.gives(True, "is_bar_by", FOUR, (0, 1, 2), ((0, 0, 0), three))
        self.gives(True, "is_bar_by", FOUR, (0, 1, 2), ((0, 0, 0), (*three[:2], ("d",))))
        self.gives(False, "is_bar_by", FOUR, (0, 1, 2), ((0, 0, 0), (*three, ("d",))))


class TestIsBarBy(Checks):
    def test_all_families_at_all_words(self):
        for chart, order in ((REST, (1, 0, 2)), (THREE, (0, 1, 2)), (TWINS, (0,)), (JOINED_TWINS, (0,)),
                             (CUBE, (2, 0, 1)), (SQUARE, (1, 0)), (ring(3), (0,)), (FOUR, (2, 1, 0))):
            showing = judging.showing_by(chart, order)
            for many in range(5):
                for family in combinations(judging.all_events(chart, 1), many):
                    for word in judging.all_words(chart):
                        some = showing.get(word, [])
                        right = many in (2, 3) and all(event in some for event in family)
                        right = right and not judging.common(family)
                        self.assertIs(function_called("is_bar_by")(chart, order, (word, family)), right)

    def test_form(self):
        fine = ((0, 1, 0), (("a", "b"), ("c",)))
        self.gives(True, "is_bar_by", REST, (1, 0, 2), fine)
        word, events = fine
        for wrong in (lists(fine), [*fine], (list(word), events), (word, list(events)), (word, (["a", "b"], ("c",))),
                      (word, events[::-1]), (word, (*events, events[1])), (events, word), (*fine, word), (word,),
                      ((0, True, False), events), ((0, 1), events), ((0, 1, 0, 0), events), ((0, 1, 2), events),
                      ((0, -1, 0), events), (word, (("b", "a"), ("c",))), (word, (("a", "x"), ("c",))),
                      ((0, 0, 0), events), (word, (("a",), ("c",))), (word, (("a", "b"), ("b",), ("c",)))):
            self.gives(False, "is_bar_by", REST, (1, 0, 2), wrong)

    def test_things_of_all_kinds(self):
        word, events = (0, 1, 0), (("a", "b"), ("c",))
        for thing in PLAIN_THINGS:
            with self.subTest(repr(thing)[:60]):
                self.gives(False, "is_bar_by", REST, (1, 0, 2), thing)
                self.gives(False, "is_bar_by", REST, (1, 0, 2), (thing, events))
                self.gives(False, "is_bar_by", REST, (1, 0, 2), (word, thing))
                self.gives(False, "is_bar_by", REST, (1, 0, 2), (word, events, thing))
                self.gives(False, "is_bar_by", REST, (1, 0, 2), (word, (thing, *events)))
                self.gives(False, "is_bar_by", REST, (1, 0, 2), (word, (*events, thing)))
                good = thing == 0 and thing is not False
                self.gives(good, "is_bar_by", REST, (1, 0, 2), ((0, 1, thing), events))
                self.gives(thing == "a", "is_bar_by", REST, (1, 0, 2), (word, ((thing, "b"), ("c",))))


class TestSteady(Checks):
    def test_against_all_readers(self):
        judged = []
        for chart, order in cases():
            if judging.how_many_right_by(chart, order) > 600:
                continue
            steady = [reader for reader in judging.right_readers_by(chart, order)
                      if judging.is_steady_by(chart, order, reader)]
            self.check(chart, order, bool(steady))
            judged.append((all(judging.may_by(chart, order).values()), bool(steady)))
        for kind in ((False, False), (True, False), (True, True)):
            self.assertGreater(judged.count(kind), 10)

    def check(self, chart, order, steady):
        self.gives(steady, "has_steady_by", chart, order)
        if not steady:
            self.fails("NoReader", {}, "a_steady_by", chart, order)
            return
        reader = self.result("a_steady_by", chart, order)
        self.assertTrue(judging.is_steady_by(chart, order, reader))
        self.assertEqual([word for word, _ in reader], list(judging.showing_by(chart, order)))
        self.gives(True, "is_steady_by", chart, order, reader)

    def test_by_what_must_be_told(self):
        for chart, order in cases():
            steady = all(judging.may_by(chart, order).values()) and not judging.must_turn_back(chart, order)
            self.check(chart, order, steady)

    def test_is_steady_by(self):
        for chart, order in cases():
            if 1 < judging.how_many_right_by(chart, order) <= 300:
                for reader in judging.right_readers_by(chart, order):
                    steady = judging.is_steady_by(chart, order, reader)
                    self.assertIs(function_called("is_steady_by")(chart, order, reader), steady)
                    self.assertIs(function_called("is_reader_by")(chart, order, reader), True)

    def test_readers_of_a_cube(self):
        order = (0, 1, 2)
        words = judging.all_words(CUBE)
        for told, steady in (("aaaabbab", False), ("aaabaaab", True), ("aaaabaab", False), ("abaaabab", False)):
            reader = tuple(zip(words, told))
            self.assertEqual(judging.is_steady_by(CUBE, order, reader), steady, told)
            self.gives(steady, "is_steady_by", CUBE, order, reader)
            self.gives(True, "is_reader_by", CUBE, order, reader)

    def test_other_words_may_be_told_too(self):
        order = (0, 1, 2)
        steady = function_called("a_steady_by")(CUBE, order)
        for name in "ab":
            more = tuple(sorted((*steady, ((0, 1, 0), name))))
            self.gives(True, "is_steady_by", CUBE, order, more)
            self.gives(True, "is_reader_by", CUBE, order, more)
        for at in range(len(steady)):
            self.gives(False, "is_steady_by", CUBE, order, steady[:at] + steady[at + 1:])
            self.gives(False, "is_reader_by", CUBE, order, steady[:at] + steady[at + 1:])

    def test_things_of_all_kinds(self):
        order, fine = (0, 1, 2), function_called("a_steady_by")(CUBE, (0, 1, 2))
        for name in ("is_steady_by", "is_reader_by"):
            for thing in PLAIN_THINGS:
                with self.subTest(repr(thing)[:60]):
                    self.gives(False, name, CUBE, order, thing)
                    self.gives(False, name, CUBE, order, (thing, *fine))
                    self.gives(False, name, CUBE, order, (*fine[:-1], thing))
                    self.gives(False, name, CUBE, order, (*fine, thing))
                    self.gives(thing == "a", name, CUBE, order, ((fine[0][0], thing), *fine[1:]))
                    self.gives(False, name, CUBE, order, ((fine[0][0], "a", thing), *fine[1:]))
                    good = thing == 0 and thing is not False
                    self.gives(good, name, CUBE, order, (((0, thing, 0), "a"), *fine[1:]))
                    self.gives(thing == "a", name, ALONE, (0,), (((1,), thing),))
            for wrong in (lists(fine), [*fine], fine[::-1], (fine[0], *fine), (list(fine[0]), *fine[1:]),
                          ((list(fine[0][0]), "a"), *fine[1:]), (*fine[:-1], ((True, True, True), "b"))):
                self.gives(False, name, CUBE, order, wrong)

    def test_charts_without_a_reader(self):
        for chart in (TWINS, JOINED_TWINS):
            for thing in ((), (((0,), "a"),), (((0,), "b"), ((1,), "a"))):
                self.gives(False, "is_steady_by", chart, (0,), thing)
                self.gives(False, "is_reader_by", chart, (0,), thing)


class TestAllOrders(Checks):
    def test_each_order(self):
        for chart in (ALONE, SQUARE, KITE, CUBE, REST, THREE, NEAR, TWINS, JOINED_TWINS, LOOSE, SLACK, ring(4),
                      *drawn_charts(76, 12, 4, (2, 2, 2), 3), *drawn_charts(77, 5, 4, (2, 2, 2, 3), 3),
                      *list(small_charts())[::11]):
            orders = list(permutations(range(len(chart[0]))))
            right = [order for order in orders if all(judging.may_by(chart, order).values())]
            self.gives(tuple(right), "right_orders", chart)
            steady = tuple(order for order in right if not judging.must_turn_back(chart, order))
            self.gives(steady, "steady_orders", chart)

    def test_some_order_is_right_and_not_steady(self):
        right = function_called("right_orders")(LOOSE)
        steady = function_called("steady_orders")(LOOSE)
        self.assertLess(set(steady), set(right))
        self.assertIn((0, 1, 2, 3, 4), set(right) - set(steady))


class TestGuarantees(Checks):
    def test_right_exactly_if_no_two_or_three_events_bar(self):
        for chart, order in cases():
            barred = False
            for some in judging.showing_by(chart, order).values():
                barred = barred or any(not set(one) & set(other) for one, other in combinations(some, 2))
                moves = [event for event in some if len(event) == 2]
                for three in combinations(moves, 3):
                    barred = barred or len({name for move in three for name in move}) == 3
            self.gives(not barred, "has_right_by", chart, order)

    def test_right_over_1_is_right_by_each_order(self):
        charts = [chart for chart in (SQUARE, CUBE, *drawn_charts(78, 120, 4, (2, 2, 2), 3)) if judging.is_right(chart, 1)]
        self.assertGreater(len(charts), 10)
        for chart in charts:
            right = function_called("a_reader")(chart, 1)
            steady = function_called("a_steady")(chart)
            for order in permutations(range(len(chart[0]))):
                self.gives(True, "is_reader_by", chart, order, right)
                self.gives(True, "is_steady_by", chart, order, steady)

    def test_by_an_order_there_may_be_one_and_none_over_1(self):
        self.gives(False, "is_right", REST, 1)
        self.gives(True, "has_right_by", REST, (2, 1, 0))
        self.fails("NoReader", {}, "a_reader", REST, 1)
        self.assertTrue(judging.is_right_by(REST, (2, 1, 0), self.result("a_reader_by", REST, (2, 1, 0))))

    def test_eight_states_and_twelve_moves(self):
        states = tuple((name, (at % 2, at // 2 % 2, at // 4, at % 3, (at * 5) % 4)) for at, name in enumerate("abcdefgh"))
        moves = tuple(sorted([*zip("abcdefg", "bcdefgh"), ("a", "h"), ("a", "d"), ("b", "f"), ("c", "g"), ("d", "h")]))
        chart = ((2, 2, 2, 3, 4), states, moves)
        right = function_called("right_orders")(chart)
        orders = list(permutations(range(5)))
        self.assertEqual(list(right), [order for order in orders if all(judging.may_by(chart, order).values())])


if __name__ == "__main__":
    unittest.main()
