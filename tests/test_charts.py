"""CHARTS, point [4]."""

import unittest
from itertools import permutations

from tests.helping import ALONE, HUGE, KITE, LETTERS, PLAIN_THINGS, SQUARE, Checks
from tests.helping import great_chart, great_value, lists, ring, sets_of, small_charts

LINE = (
    (2, 2),
    (("a", (0, 0)), ("b", (0, 1)), ("c", (1, 1)), ("d", (1, 0))),
    (("a", "b"), ("b", "c"), ("c", "d")),
)
# NAMES in the order of Python's comparison, which is not that of their lengths.
UNEVEN = ((4,), (("aa", (0,)), ("ab", (1,)), ("b", (2,)), ("zzzzzzzz", (3,))), (("aa", "b"), ("ab", "zzzzzzzz")))


class TestExamples(Checks):
    def test_reading(self):
        self.gives(("a", "b", "c", "d"), "names", SQUARE)
        self.gives((1, 1), "word_of", SQUARE, "c")
        self.gives(True, "is_joined", SQUARE, "d", "a")
        self.gives(False, "is_joined", SQUARE, "a", "c")
        self.gives(False, "is_joined", SQUARE, "a", "a")
        self.gives(("b", "d"), "neighbours", SQUARE, "a")

    def test_parts(self):
        self.gives((("a", "b", "c", "d"),), "parts", SQUARE)
        self.gives(False, "is_forest", SQUARE)
        self.gives(True, "is_forest", self.result("without_move", SQUARE, "d", "c"))
        self.gives((("b", "c", "d"),), "parts", self.result("without_state", SQUARE, "a"))
        halved = self.result("without_move", self.result("without_move", SQUARE, "a", "b"), "c", "d")
        self.gives((("a", "d"), ("b", "c")), "parts", halved)

    def test_states_and_moves(self):
        states = (("a", (0, 0)), ("c", (1, 1)), ("d", (1, 0)), ("x", (0, 1)))
        without = self.result("without_state", SQUARE, "b")
        self.gives(((2, 2), states, (("a", "d"), ("c", "d"))), "with_state", without, "x", (0, 1))
        moves = (("a", "b"), ("a", "c"), ("a", "d"), ("b", "c"), ("c", "d"))
        self.gives((*SQUARE[:2], moves), "with_move", SQUARE, "c", "a")

    def test_names_and_fields(self):
        states = (("a", (1, 0)), ("b", (0, 1)), ("c", (1, 1)), ("z", (0, 0)))
        moves = (("a", "c"), ("a", "z"), ("b", "c"), ("b", "z"))
        self.gives(((2, 2), states, moves), "renamed_chart", SQUARE, (("a", "z"), ("d", "a")))
        states = (("a", (0, 0, 0)), ("b", (0, 1, 1)), ("c", (1, 1, 2)), ("d", (1, 0, 1)))
        self.gives(((2, 2, 3), states, SQUARE[2]), "with_field", SQUARE, 3, (0, 1, 2, 1))
        states = (("a", (0,)), ("b", (1,)), ("c", (1,)), ("d", (0,)))
        self.gives(((2,), states, SQUARE[2]), "without_field", SQUARE, 0)

    def test_is_chart(self):
        self.gives(True, "is_chart", SQUARE)
        self.gives(False, "is_chart", ((2,), (("a", (2,)),), ()))
        self.gives(False, "is_chart", ((2,), (("a", (0,)), ("b", (0,))), (("b", "a"),)))
        self.gives(False, "is_chart", ((2,), (), ()))

    def test_errors(self):
        self.fails("NoName", {"name": "x"}, "neighbours", SQUARE, "x")
        self.fails("Twice", {"name": "a"}, "with_state", SQUARE, "a", (1, 1))


class TestIsChart(Checks):
    def chart_is(self, expected, sizes, states, moves):
        self.gives(expected, "is_chart", (sizes, states, moves))

    def test_charts_of_all_sorts(self):
        for chart in (ALONE, SQUARE, LINE, KITE, UNEVEN, ring(3), ring(20), great_chart()):
            self.gives(True, "is_chart", chart)
        self.chart_is(True, (2,), (("a", (0,)), ("b", (0,))), ())
        self.chart_is(True, (2, HUGE), (("a", (1, HUGE - 1)),), ())
        self.chart_is(True, (10 ** 700,), (("zzzzzzzz", (10 ** 700 - 1,)),), ())

    def test_charts_of_many_states_and_fields(self):
        named = [one + other for one in LETTERS[:10] for other in LETTERS]
        states = tuple((name, (0,) * 60) for name in named)
        moves = tuple(zip(named, named[1:]))
        self.chart_is(True, (2,) * 60, states, moves)
        self.chart_is(False, (2,) * 60, states, (*moves, moves[-1]))
        self.chart_is(False, (2,) * 60, (*states, states[-1]), moves)

    def test_things_of_all_kinds(self):
        for thing in PLAIN_THINGS:
            with self.subTest(repr(thing)[:60]):
                self.gives(False, "is_chart", thing)

    def test_things_of_all_kinds_in_each_place(self):
        sizes, states, moves = SQUARE
        for thing in PLAIN_THINGS:
            with self.subTest(repr(thing)[:60]):
                self.chart_is(False, thing, states, moves)
                self.chart_is(False, sizes, thing, moves)
                self.chart_is(thing == () and isinstance(thing, tuple), sizes, states, thing)
                self.chart_is(False, sizes, (thing,), ())
                self.chart_is(False, sizes, (("a", thing),), ())
                self.chart_is(False, sizes, states, (thing, *moves))

    def test_things_of_all_kinds_in_each_inner_place(self):
        for thing in PLAIN_THINGS:
            with self.subTest(repr(thing)[:60]):
                number = isinstance(thing, int) and not isinstance(thing, bool)
                self.chart_is(number and thing >= 2, (thing,), (("a", (0,)),), ())
                self.chart_is(number and 0 <= thing < 2, (2,), (("a", (thing,)),), ())
                self.chart_is(thing in ("a", "ab"), (2,), ((thing, (0,)),), ())
                self.chart_is(thing == "a", *ring(3)[:2], ((thing, "b"),))
                self.chart_is(thing == "a", *ring(3)[:2], ((thing, "b"), ("b", "c")))
                self.chart_is(False, *ring(3)[:2], (("b", thing),))

    def test_lists_are_no_tuples_at_any_depth(self):
        sizes, states, moves = SQUARE
        self.gives(False, "is_chart", lists(SQUARE))
        self.gives(False, "is_chart", [*SQUARE])
        self.chart_is(False, [*sizes], states, moves)
        self.chart_is(False, sizes, [*states], moves)
        self.chart_is(False, sizes, states, [*moves])
        self.chart_is(False, sizes, (["a", (0, 0)], *states[1:]), moves)
        self.chart_is(False, sizes, (("a", [0, 0]), *states[1:]), moves)
        self.chart_is(False, sizes, states, (["a", "b"], *moves[1:]))
        self.chart_is(False, sizes, states, [])

    def test_too_few_and_too_many(self):
        sizes, states, moves = SQUARE
        self.gives(False, "is_chart", (sizes, states))
        self.gives(False, "is_chart", (sizes, states, moves, ()))
        self.chart_is(False, (), (("a", ()),), ())
        self.chart_is(False, sizes, (("a", (0,)),), ())
        self.chart_is(False, sizes, (("a", (0, 0, 0)),), ())
        self.chart_is(False, sizes, (("a", ()),), ())
        self.chart_is(False, sizes, (("a",),), ())
        self.chart_is(False, sizes, (("a", (0, 0), ()),), ())
        self.chart_is(False, sizes, states, (("a",),))
        self.chart_is(False, sizes, states, (("a", "b", "c"),))

    def test_sizes_from_two(self):
        for size in (1, 0, -2, True):
            self.chart_is(False, (size,), (("a", (0,)),), ())
            self.chart_is(False, (2, size), (("a", (0, 0)),), ())
        self.chart_is(True, (2, 3), (("a", (0, 0)),), ())

    def test_values_from_zero_and_below_the_size(self):
        for value, good in ((0, True), (2, True), (3, False), (-1, False), (True, False), (False, False)):
            self.chart_is(good, (2, 3), (("a", (0, value)),), ())
            self.chart_is(good, (3, 2), (("a", (0, 0)), ("b", (value, 1))), ())

    def test_names_have_one_to_eight_small_letters(self):
        for name in ("a", "z", "abcdefgh", "zzzzzzzz", "no"):
            self.chart_is(True, (2,), ((name, (0,)),), ())
        wrong = ["", "abcdefghi", "A", "aB", "a1", "a b", "a_", "a\n", " a", "-", "`", "{"]
        wrong += ["\u00e9", "\u00df", "\u0430", "\uff41", "a\u0301"]
        for name in wrong:
            with self.subTest(ascii(name)):
                self.chart_is(False, (2,), ((name, (0,)),), ())

    def test_names_of_states_ascend_and_stand_once(self):
        for order in permutations((("a", (0,)), ("b", (1,)), ("c", (0,)))):
            self.chart_is(order == tuple(sorted(order)), (2,), order, ())
        self.chart_is(False, (2,), (("a", (0,)), ("a", (1,))), ())
        self.chart_is(False, (2,), (("a", (0,)), ("a", (0,))), ())
        self.chart_is(True, (2,), (("aa", (0,)), ("ab", (1,)), ("b", (0,))), ())
        self.chart_is(False, (2,), (("b", (0,)), ("aa", (1,))), ())

    def test_moves_ascend_and_stand_once(self):
        sizes, states, moves = SQUARE
        for order in permutations(moves):
            self.chart_is(order == moves, sizes, states, order)
        self.chart_is(False, sizes, states, (("a", "b"), ("a", "b")))

    def test_moves_join_two_states_the_lesser_one_first(self):
        for one in "abcdex":
            for other in "abcdex":
                good = one < other and "x" not in (one, other)
                self.chart_is(good, *KITE[:2], ((one, other),))


class TestReading(Checks):
    def test_names(self):
        self.gives(("a",), "names", ALONE)
        self.gives(("aa", "ab", "b", "zzzzzzzz"), "names", UNEVEN)
        self.gives(tuple(LETTERS[:20]), "names", great_chart())

    def test_word_of(self):
        self.gives((1,), "word_of", ALONE, "a")
        self.gives((1, 0), "word_of", KITE, "e")
        self.gives((1, 0), "word_of", KITE, "b")
        self.gives((3,), "word_of", UNEVEN, "zzzzzzzz")
        self.gives(great_chart()[1][19][1], "word_of", great_chart(), "t")

    def test_joined_and_neighbours(self):
        for chart in (ALONE, KITE, UNEVEN, ring(3), *list(small_charts())[::7]):
            named = [name for name, _ in chart[1]]
            for one in named:
                joined = [other for other in named if (one, other) in chart[2] or (other, one) in chart[2]]
                self.gives(tuple(joined), "neighbours", chart, one)
                for other in named:
                    self.gives(other in joined, "is_joined", chart, one, other)

    def test_great_chart(self):
        self.gives(tuple("abcdefghijklmnopqrs"), "neighbours", great_chart(), "t")
        self.gives(True, "is_joined", great_chart(), "t", "a")
        self.gives(False, "is_joined", great_chart(), "t", "t")

    def test_no_such_state(self):
        for chart in (SQUARE, ALONE, UNEVEN):
            self.fails("NoName", {"name": "x"}, "word_of", chart, "x")
            self.fails("NoName", {"name": "aaa"}, "neighbours", chart, "aaa")
            self.fails("NoName", {"name": "x"}, "is_joined", chart, chart[1][0][0], "x")
            self.fails("NoName", {"name": "x"}, "is_joined", chart, "x", chart[1][0][0])
            self.fails("NoName", {"name": "z"}, "is_joined", chart, "z", "y")
            self.fails("NoName", {"name": "y"}, "is_joined", chart, "y", "z")
            self.fails("NoName", {"name": "z"}, "is_joined", chart, "z", "z")


class TestChanging(Checks):
    def test_with_state_at_each_place(self):
        chart = ((2,), (("b", (0,)), ("d", (1,))), (("b", "d"),))
        self.gives(((2,), (("a", (1,)), *chart[1]), chart[2]), "with_state", chart, "a", (1,))
        self.gives(((2,), (chart[1][0], ("bb", (1,)), chart[1][1]), chart[2]), "with_state", chart, "bb", (1,))
        self.gives(((2,), (*chart[1], ("dd", (0,))), chart[2]), "with_state", chart, "dd", (0,))
        self.gives(((2,), (("a", (1,)), ("b", (1,))), ()), "with_state", ALONE, "b", (1,))

    def test_with_state_twice(self):
        for name, _ in KITE[1]:
            self.fails("Twice", {"name": name}, "with_state", KITE, name, (0, 0))
        self.fails("Twice", {"name": "e"}, "with_state", KITE, "e", (1, 0))

    def test_without_state(self):
        self.gives(((2, 2), SQUARE[1][:3], (("a", "b"), ("b", "c"))), "without_state", SQUARE, "d")
        self.gives((KITE[0], KITE[1][:4], KITE[2]), "without_state", KITE, "e")
        states = (KITE[1][0], KITE[1][1], KITE[1][3], KITE[1][4])
        self.gives((KITE[0], states, (("a", "b"),)), "without_state", KITE, "c")
        self.gives(((2,), (("b", (0,)),), ()), "without_state", ((2,), (("a", (0,)), ("b", (0,))), (("a", "b"),)), "a")
        named = ((2,), (("a", (0,)), ("aa", (0,)), ("b", (0,))), (("aa", "b"),))
        self.gives(((2,), named[1][1:], named[2]), "without_state", named, "a")
        self.fails("NoName", {"name": "x"}, "without_state", SQUARE, "x")

    def test_with_and_without_move(self):
        for chart in (SQUARE, KITE, UNEVEN, *list(small_charts())[::9]):
            named = [name for name, _ in chart[1]]
            for one, other in permutations(named, 2):
                move = (min(one, other), max(one, other))
                rest = [old for old in chart[2] if old != move]
                self.gives((*chart[:2], tuple(sorted([*rest, move]))), "with_move", chart, one, other)
                self.gives((*chart[:2], tuple(rest)), "without_move", chart, one, other)

    def test_moves_of_no_such_state(self):
        for name in ("with_move", "without_move"):
            self.fails("NoName", {"name": "x"}, name, SQUARE, "x", "a")
            self.fails("NoName", {"name": "x"}, name, SQUARE, "a", "x")
            self.fails("NoName", {"name": "y"}, name, SQUARE, "y", "x")
            self.fails("NoName", {"name": "x"}, name, SQUARE, "x", "y")

    def test_renamed_chart(self):
        self.gives(SQUARE, "renamed_chart", SQUARE, ())
        self.gives(ALONE, "renamed_chart", ALONE, (("a", "a"),))
        self.gives(((2,), (("zz", (1,)),), ()), "renamed_chart", ALONE, (("a", "zz"),))
        states = (("a", (0, 1)), ("b", (0, 0)), *SQUARE[1][2:])
        moves = (("a", "b"), ("a", "c"), ("b", "d"), ("c", "d"))
        self.gives(((2, 2), states, moves), "renamed_chart", SQUARE, (("a", "b"), ("b", "a")))
        self.gives(((2, 2), states, moves), "renamed_chart", SQUARE, (("b", "a"), ("a", "b")))

    def test_renamed_along_a_row(self):
        states = (("b", (0, 0)), ("c", (0, 1)), ("d", (1, 1)), ("e", (1, 0)))
        moves = (("b", "c"), ("c", "d"), ("d", "e"))
        pairs = (("a", "b"), ("b", "c"), ("c", "d"), ("d", "e"))
        self.gives(((2, 2), states, moves), "renamed_chart", LINE, pairs)
        self.gives(((2, 2), states, moves), "renamed_chart", LINE, pairs[::-1])

    def test_with_field(self):
        self.gives(((2, 5), (("a", (1, 4)),), ()), "with_field", ALONE, 5, (4,))
        self.gives(((2, 2), (("a", (1, 0)),), ()), "with_field", ALONE, 2, (0,))
        self.gives(((2, HUGE), (("a", (1, HUGE - 1)),), ()), "with_field", ALONE, HUGE, (HUGE - 1,))
        states = (("aa", (0, 3)), ("ab", (1, 2)), ("b", (2, 1)), ("zzzzzzzz", (3, 0)))
        self.gives(((4, 4), states, UNEVEN[2]), "with_field", UNEVEN, 4, (3, 2, 1, 0))

    def test_without_field(self):
        self.gives(((2,), (("a", (0,)), ("b", (0,)), ("c", (1,)), ("d", (1,))), SQUARE[2]), "without_field", SQUARE, 1)
        chart = ((2, 3, 4), (("a", (0, 1, 2)), ("b", (1, 2, 3))), (("a", "b"),))
        self.gives(((3, 4), (("a", (1, 2)), ("b", (2, 3))), chart[2]), "without_field", chart, 0)
        self.gives(((2, 4), (("a", (0, 2)), ("b", (1, 3))), chart[2]), "without_field", chart, 1)
        self.gives(((2, 3), (("a", (0, 1)), ("b", (1, 2))), chart[2]), "without_field", chart, 2)

    def test_what_is_made_is_a_chart(self):
        made = (
            self.result("with_state", lists(SQUARE), "bb", [0, 1]),
            self.result("without_state", lists(SQUARE), "a"),
            self.result("with_move", lists(SQUARE), "c", "a"),
            self.result("without_move", lists(SQUARE), "b", "a"),
            self.result("renamed_chart", lists(SQUARE), [["a", "z"], ["d", "a"]]),
            self.result("with_field", lists(SQUARE), 3, [2, 1, 0, 1]),
            self.result("without_field", lists(SQUARE), 1),
        )
        for chart in made:
            self.gives(True, "is_chart", chart)


class TestGreatCharts(Checks):
    def setUp(self):
        self.chart = great_chart()

    def test_states(self):
        sizes, states, moves = self.chart
        word = tuple(great_value(20, field) for field in range(20))
        self.gives((sizes, (*states, ("u", word)), moves), "with_state", self.chart, "u", word)
        kept = tuple(move for move in moves if "h" not in move)
        self.gives((sizes, states[:7] + states[8:], kept), "without_state", self.chart, "h")
        self.fails("Twice", {"name": "h"}, "with_state", self.chart, "h", word)

    def test_moves(self):
        self.gives(self.chart, "with_move", self.chart, "t", "a")
        self.gives((*self.chart[:2], self.chart[2][1:]), "without_move", self.chart, "b", "a")

    def test_renamed(self):
        sizes, states, moves = self.chart
        pairs = tuple((LETTERS[at], LETTERS[19 - at]) for at in range(20))
        turned = tuple((LETTERS[at], states[19 - at][1]) for at in range(20))
        self.gives((sizes, turned, moves), "renamed_chart", self.chart, pairs)

    def test_fields(self):
        sizes, states, moves = self.chart
        values = tuple(range(HUGE - 20, HUGE))
        grown = tuple((name, (*word, value)) for (name, word), value in zip(states, values))
        self.gives(((*sizes, HUGE), grown, moves), "with_field", self.chart, HUGE, values)
        cut = tuple((name, word[:19]) for name, word in states)
        self.gives((sizes[1:], cut, moves), "without_field", self.chart, 19)

    def test_parts(self):
        self.gives((tuple(LETTERS[:20]),), "parts", self.chart)
        self.gives(False, "is_forest", self.chart)
        still = (*self.chart[:2], ())
        self.gives(tuple((name,) for name in LETTERS[:20]), "parts", still)
        self.gives(True, "is_forest", still)


class TestParts(Checks):
    def test_one_state(self):
        self.gives((("a",),), "parts", ALONE)
        self.gives(True, "is_forest", ALONE)

    def test_rings(self):
        for many in range(3, 21):
            self.gives((tuple(LETTERS[:many]),), "parts", ring(many))
            self.gives(False, "is_forest", ring(many))
            opened = (*ring(many)[:2], ring(many)[2][1:])
            self.gives((tuple(LETTERS[:many]),), "parts", opened)
            self.gives(True, "is_forest", opened)

    def test_ring_beside_other_parts(self):
        self.gives((("a", "b", "c", "d"), ("e",)), "parts", KITE)
        self.gives(False, "is_forest", KITE)
        self.gives((("aa", "b"), ("ab", "zzzzzzzz")), "parts", UNEVEN)
        self.gives(True, "is_forest", UNEVEN)

    def test_ring_of_the_states_at_the_end(self):
        chart = ((2,), tuple((name, (0,)) for name in "abcdef"), (("a", "b"), ("d", "e"), ("d", "f"), ("e", "f")))
        self.gives((("a", "b"), ("c",), ("d", "e", "f")), "parts", chart)
        self.gives(False, "is_forest", chart)

    def test_a_tree_of_nineteen_moves(self):
        moves = tuple((LETTERS[(at - 1) // 2], LETTERS[at]) for at in range(1, 20))
        chart = ((2,), tuple((name, (1,)) for name in LETTERS[:20]), moves)
        self.gives((tuple(LETTERS[:20]),), "parts", chart)
        self.gives(True, "is_forest", chart)
        self.gives(False, "is_forest", self.result("with_move", chart, "t", "s"))

    def test_all_moves_of_four_states(self):
        for chart in small_charts():
            self.gives(parts_by_growing(chart), "parts", chart)
            self.gives(has_no_ring(chart), "is_forest", chart)


def parts_by_growing(chart):
    """The sets of states without a move out of them that hold no smaller one."""
    closed = [
        some for some in sets_of([name for name, _ in chart[1]], 1)
        if all((one in some) == (other in some) for one, other in chart[2])
    ]
    return tuple(sorted(some for some in closed if not any(set(less) < set(some) for less in closed)))


def has_no_ring(chart):
    """Some order of three states or more that goes round would be a ring."""
    for some in sets_of([name for name, _ in chart[1]], 3):
        for order in permutations(some):
            if all(tuple(sorted(pair)) in chart[2] for pair in zip(order, order[1:] + order[:1])):
                return False
    return True


if __name__ == "__main__":
    unittest.main()
