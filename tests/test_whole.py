"""What the document promises over all files together, point [1]."""

import doctest
import random
import unittest
from itertools import combinations, permutations
from math import prod
from pathlib import Path

from oldornew.board import Board
from tests import judging
from tests.helping import ALONE, KITE, LETTERS, SQUARE, Checks
from tests.helping import drawn_charts, function_called, ring, small_charts

FAR = ((2, 2, 2), (("off", (0, 0, 0)), ("on", (1, 1, 1))), (("off", "on"),))
REST = ((2, 2, 2), (("a", (0, 0, 0)), ("b", (1, 1, 1)), ("c", (0, 1, 0))), (("a", "b"),))
PATH = (
    (2, 3, 2),
    (("a", (0, 0, 0)), ("b", (0, 2, 1)), ("c", (1, 2, 1)), ("d", (1, 1, 0))),
    (("a", "b"), ("b", "c"), ("c", "d")),
)


def charts_to_try():
    yield from (ALONE, SQUARE, KITE, FAR, REST, PATH, ring(3), ring(5))
    yield from list(small_charts())[::4]
    yield from drawn_charts(111, 30, 4, (2, 2, 2), 4)
    yield from drawn_charts(112, 30, 4, (3, 4), 4)
    yield from drawn_charts(113, 30, 5, (5, 2, 2), 4)


def drawn_walk(draw, chart, long):
    walk = [draw.choice(judging.named(chart))]
    for _ in range(draw.randint(0, long)):
        near = [name for name in judging.named(chart) if judging.has_move(chart, walk[-1], name)]
        walk += near and [draw.choice(near)]
    return walk


def words_on(draw, chart, walk):
    """The WORDS that a Board has, one behind another, while it goes along the walk, in drawn orders of changes."""
    board = Board(chart, walk[0])
    words = [board.word()]
    for name in walk[1:]:
        board.start(name)
        fields = list(board.fields_left())
        draw.shuffle(fields)
        for field in fields:
            board.change(field)
            words.append(board.word())
        board.finish()
    return words


def looked(draw, words):
    """What a look meets that reads each field at a moment of its own."""
    return tuple(draw.choice(words)[field] for field in range(len(words[0])))


class TestLooks(Checks):
    def test_right_exactly_if_families_without_a_common_state_are_parted(self):
        for chart in charts_to_try():
            for long in range(3):
                if long < 2 or len(judging.all_events(chart, 2)) < 14:
                    right = not judging.unparted(chart, long, long + 2)
                    self.gives(right, "is_right", chart, long)

    def test_a_look_tells_a_state_that_stood_meanwhile(self):
        draw = random.Random(114)
        many = 0
        for chart in charts_to_try():
            for long in range(3):
                if judging.is_right(chart, long):
                    reader = function_called("a_reader")(chart, long)
                    for _ in range(20):
                        walk = drawn_walk(draw, chart, long)
                        word = looked(draw, words_on(draw, chart, walk))
                        self.assertIn(function_called("tells")(reader, word), walk)
                        many += len(walk) > 1
        self.assertGreater(many, 500)

    def test_looks_at_a_bar_cannot_tell(self):
        draw = random.Random(115)
        for chart in charts_to_try():
            for long in range(3):
                found = function_called("bar")(chart, long)
                if found:
                    word, events = found
                    for event in events:
                        walk = function_called("walk_of")(chart, long, event)
                        words = words_on(draw, chart, walk)
                        for field, value in enumerate(word):
                            self.assertIn(value, [other[field] for other in words])
                    self.assertFalse(judging.common(events))

    def test_looks_of_any_length(self):
        draw = random.Random(116)
        many = 0
        for chart in (*charts_to_try(), *drawn_charts(117, 80, 5, (3, 3, 3), 4)):
            if function_called("is_always_right")(chart):
                many += len(chart[2]) > 1
                for _ in range(20):
                    walk = drawn_walk(draw, chart, 12)
                    word = looked(draw, words_on(draw, chart, walk))
                    told = function_called("always_told")(chart, word)
                    self.assertTrue(told)
                    self.assertLessEqual(set(told), set(walk))
        self.assertGreater(many, 3)

    def test_without_rings_by_the_sides_of_each_move(self):
        for chart in (*charts_to_try(), *drawn_charts(118, 60, 5, (4, 3), 3)):
            if not any(judging.rings(chart)):
                right = all(judging.fields_apart(chart, [judging.led_to(chart, name, [move]) for name in move])
                            for move in chart[2])
                for pair in combinations(judging.parts(chart), 2):
                    right = right and bool(judging.fields_apart(chart, pair))
                self.gives(right, "is_always_right", chart)


class TestBoards(Checks):
    def looks_on(self, chart, one, other, order, reader):
        """What is told on the way by this order, by a Board."""
        board = Board(chart, one)
        board.start(other)
        told = [board.look(reader)]
        for field in order:
            board.change(field)
            told.append(board.look(reader))
        self.assertEqual(board.fields_left(), ())
        board.finish()
        self.assertTrue(board.is_at_rest())
        return tuple(told)

    def test_whenever_a_reader_is_right_there_is_a_steady_one(self):
        for chart in charts_to_try():
            if not judging.is_right(chart, 1):
                self.fails("NoReader", {}, "a_steady", chart)
                continue
            reader = function_called("a_steady")(chart)
            for one, other in judging.both_ways(chart):
                for order in judging.all_orders(chart, one, other):
                    told = self.looks_on(chart, one, other, order, reader)
                    self.assertTrue(judging.changes_once(told, one, other))

    def test_right_readers_fit_under_way(self):
        draw = random.Random(119)
        for chart in charts_to_try():
            if judging.is_right(chart, 1):
                reader = function_called("a_reader")(chart, 1)
                for one, other in judging.both_ways(chart):
                    board = Board(chart, one)
                    board.start(other)
                    while board.fields_left():
                        self.assertTrue(board.fits(reader))
                        board.change(draw.choice(board.fields_left()))
                    self.assertTrue(board.fits(reader))

    def test_by_each_told_order(self):
        for chart in (FAR, REST, PATH, KITE, *drawn_charts(120, 25, 4, (2, 2, 3), 3)):
            for order in permutations(range(len(chart[0]))):
                right = function_called("has_right_by")(chart, order)
                steady = function_called("has_steady_by")(chart, order)
                self.assertEqual(order in function_called("right_orders")(chart), right)
                self.assertEqual(order in function_called("steady_orders")(chart), steady)
                for one, other in judging.both_ways(chart):
                    self.check_row(chart, order, one, other, right, steady)

    def check_row(self, chart, order, one, other, right, steady):
        row = function_called("row_by")(chart, one, other, order)
        board = Board(chart, one)
        board.start(other)
        fields = [field for field in order if field in board.fields_left()]
        shown = [board.word()]
        for field in fields:
            board.change(field)
            shown.append(board.word())
        self.assertEqual(tuple(shown), row)
        self.assertLessEqual(set(shown), set(function_called("shown_by")(chart, order)))
        if right:
            told = self.looks_on(chart, one, other, fields, function_called("a_reader_by")(chart, order))
            self.assertLessEqual(set(told), {one, other})
        if steady:
            told = self.looks_on(chart, one, other, fields, function_called("a_steady_by")(chart, order))
            self.assertTrue(judging.changes_once(told, one, other))


class TestBits(Checks):
    def test_a_code_exists_exactly_if_events_that_meet_have_a_common_state(self):
        for chart in (*list(small_charts())[::3], *drawn_charts(121, 20, 5, (2,), 5)):
            for long in range(3):
                right = not any(judging.meeting_families(chart, long))
                self.gives(right, "has_bits", chart, long)
                if right:
                    cuts = function_called("some_cuts")(chart, long)
                    self.assertTrue(judging.is_right(judging.in_bits(chart, cuts), long))
                if not any(judging.rings(chart)):
                    self.assertTrue(right)

    def test_rings(self):
        for many in range(3, 9):
            for long in range(3):
                self.gives(many > 3 * long, "has_bits", ring(many), long)
                self.gives(many > 3 * long, "ring_right", many, long)

    def test_a_thermometer_can_be_read_over_each_length(self):
        for chart in drawn_charts(122, 40, 6, (2,), 4):
            made = function_called("thermometer")(chart)
            if made:
                for long in range(3):
                    self.gives(True, "is_right", made, long)


class TestCounts(Checks):
    def test_readers_and_words(self):
        for chart in charts_to_try():
            for long in range(3):
                told = judging.may_tell(chart, long)
                self.assertEqual(function_called("how_many_met")(chart, long), len(told))
                many = prod(map(len, told.values()))
                self.assertEqual(function_called("how_many_readers")(chart, long), many)
                if many:
                    first = function_called("nth_reader")(chart, long, 0)
                    self.assertTrue(judging.is_told_right(chart, long, first))
                    self.assertEqual(function_called("wrongly_told")(chart, long, first), [])

    def test_moves_that_can_be_put_in(self):
        for chart in charts_to_try():
            for move in function_called("free_moves")(chart):
                joined = function_called("with_move")(chart, *move)
                self.assertTrue(judging.is_right(joined, 1))
                self.assertEqual(function_called("how_many_barred")(joined, 1), 0)

    def test_counters(self):
        for sizes in ((2, 3), (3, 3), (2, 2, 2)):
            wanted = tuple(LETTERS[:prod(sizes)])
            chart = function_called("reflected_chart")(sizes, wanted)
            board = Board(chart, "a")
            for number, name in enumerate(wanted[1:]):
                board.start(name)
                field, change = function_called("reflected_step")(sizes, number)
                self.assertEqual(board.fields_left(), (field,))
                before = board.word()[field]
                board.change(field)
                self.assertEqual(board.word()[field] - before, change)
                self.assertEqual(function_called("reflected_number")(sizes, board.word()), number + 1)
                board.finish()


class TestTexts(Checks):
    def test_there_and_back(self):
        for chart in charts_to_try():
            text = function_called("chart_text")(chart)
            self.gives(chart, "chart_read", text)
            name = judging.named(chart)[-1]
            self.assertTrue(Board(function_called("chart_read")(text), name) == Board(chart, name))
            for long in range(3):
                self.check_long(chart, long)

    def check_long(self, chart, long):
        lots = function_called("events")(chart, long)
        self.assertEqual(function_called("lots_read")(function_called("lots_text")(lots)), lots)
        if judging.is_right(chart, long):
            reader = function_called("a_reader")(chart, long)
            self.assertEqual(function_called("reader_read")(function_called("reader_text")(reader)), reader)

    def test_the_desk_tells_what_the_board_tells(self):
        draw = random.Random(123)
        for chart in charts_to_try():
            walk = drawn_walk(draw, chart, 4)
            board, lines = Board(chart, walk[0]), []
            for name in walk[1:]:
                board.start(name)
                lines.append("start " + name)
                for field in draw.sample(board.fields_left(), len(board.fields_left()) // 2):
                    board.change(field)
                    lines.append(f"change {field}")
                if name != walk[-1]:
                    board.finish()
                    lines.append("finish")
                else:
                    break
            text = "\n".join([*lines, "word", "ends", "may 1", "right 1"])
            told = function_called("replies")(chart, walk[0], text)
            self.assertEqual(told[:-4], ["done"] * len(lines))
            self.assertEqual(function_called("word_read")(told[-4]), board.word())
            self.assertEqual(function_called("walk_read")(told[-3]), board.ends())
            may = function_called("may_tell")(chart, 1, board.word())
            self.assertEqual(told[-2], function_called("walk_text")(may) if may else "-")
            self.assertEqual(told[-1], "yes" if function_called("is_right")(chart, 1) else "no")


class TestReadme(unittest.TestCase):
    def test_its_examples_hold(self):
        readme = Path(__file__).resolve().parent.parent / "README.md"
        failed, tried = doctest.testfile(str(readme), module_relative=False)
        self.assertGreater(tried, 10)
        self.assertEqual(failed, 0)


if __name__ == "__main__":
    unittest.main()
