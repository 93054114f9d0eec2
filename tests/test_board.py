"""Boards, point [16]."""

import random
import unittest
from unittest.mock import ANY

from oldornew.board import Board
from oldornew.errors import NoName, NoNumber, NothingDone, NotJoined
from tests import judging
from tests.helping import ALONE, HUGE, KITE, METHODS, SQUARE
from tests.helping import drawn_charts, lists, tuples

FAR = ((2, 2, 2), (("off", (0, 0, 0)), ("on", (1, 1, 1))), (("off", "on"),))
JOINED_TWINS = ((2,), (("a", (0,)), ("b", (0,))), (("a", "b"),))
ROW = ((3, 3, 3), (("a", (0, 1, 2)), ("b", (0, 2, 1)), ("c", (2, 2, 0))), (("a", "b"), ("b", "c")))
READER = (((0, 0, 0), "off"), ((0, 1, 0), "on"))
READINGS = ("chart", "word", "ends", "is_at_rest", "fields_left", "deeds")


class Model:
    """A Board worked out from the words of the document, with a copy of all for each deed."""

    def __init__(self, chart, name):
        self.chart, self.now, self.past = chart, (judging.word_in(chart, name), (name, name)), []

    def left(self):
        word, ends = self.now
        goal = judging.word_in(self.chart, ends[1])
        return tuple(field for field in range(len(word)) if word[field] != goal[field])

    def do(self, deed, *given):
        """Do the deed; return None, or the error, as a pair of its name and what it keeps."""
        word, ends = self.now
        goal = judging.word_in(self.chart, ends[1])
        if deed == "undo":
            if not self.past:
                return "NothingDone", {}
            self.now = self.past.pop()
            return None
        if deed == "start":
            (name,) = given
            if name not in judging.named(self.chart):
                return "NoName", {"name": name}
            if ends[0] != ends[1] or not judging.has_move(self.chart, ends[1], name):
                return "NotJoined", {"one": ends[1], "other": name}
            then = word, (ends[1], name)
        elif deed == "change":
            (field,) = given
            if field not in self.left():
                return "NoNumber", {"number": field}
            then = tuple(goal[at] if at == field else value for at, value in enumerate(word)), ends
        else:
            then = goal, (ends[1], ends[1])
        self.past.append(self.now)
        self.now = then
        return None

    def readings(self):
        word, ends = self.now
        return [self.chart, word, ends, ends[0] == ends[1], self.left(), len(self.past)]


def readings(board):
    return [getattr(board, name)() for name in READINGS]


class BoardChecks(unittest.TestCase):
    def same(self, value, expected):
        """The value is what is expected, in kind, too."""
        self.assertEqual(repr(value), repr(expected))

    def reads(self, board, model):
        self.same(readings(board), model.readings())

    def refused(self, error, kept, method, *args, **more):
        with self.assertRaises(error) as caught:
            method(*args, **more)
        self.same(vars(caught.exception), kept)


class TestExamples(BoardChecks):
    def test_rows(self):
        board = Board(FAR, "off")
        self.same(readings(board)[1:5], [(0, 0, 0), ("off", "off"), True, ()])
        self.assertIsNone(board.start("on"))
        self.same(readings(board)[2:5], [("off", "on"), False, (0, 1, 2)])
        self.assertIsNone(board.change(1))
        self.same([board.word(), board.fields_left(), board.look(READER)], [(0, 1, 0), (0, 2), "on"])
        self.same([board.fits((((0, 0, 0), "off"),)), board.is_at_rest()], [False, False])
        self.assertIsNone(board.finish())
        self.same([board.word(), board.ends()], [(1, 1, 1), ("on", "on")])
        self.assertIsNone(board.undo())
        self.same([board.word(), board.deeds()], [(0, 1, 0), 2])
        self.assertIsNone(board.change(0))
        self.assertIsNone(board.change(2))
        self.assertIs(board.is_at_rest(), False)
        self.refused(NoNumber, {"number": 1}, board.change, 1)
        self.refused(NotJoined, {"one": "on", "other": "off"}, board.start, "off")
        self.refused(NoName, {"name": "x"}, board.start, "x")
        self.same([board.twin() == board, board == Board(FAR, "on"), board.deeds()], [True, False, 4])


class TestConstructor(BoardChecks):
    def test_each_state(self):
        for chart in (ALONE, SQUARE, KITE, FAR, ROW, JOINED_TWINS):
            for name, word in chart[1]:
                for form in (chart, lists(chart)):
                    for board in (Board(form, name), Board(chart=form, name=name), Board(name=name, chart=form)):
                        self.same(readings(board), [chart, word, (name, name), True, (), 0])

    def test_no_state_of_this_name(self):
        for chart in (ALONE, SQUARE, lists(FAR)):
            for name in ("x", "abcdefgh"):
                self.refused(NoName, {"name": name}, Board, chart, name)
                self.refused(NoName, {"name": name}, Board, chart=chart, name=name)
        with self.assertRaises(LookupError):
            Board(FAR, "x")

    def test_arguments_are_copied(self):
        chart = lists(FAR)
        board = Board(chart, "off")
        board.start("on")
        chart[1][0][1][0] = 1
        chart[1][1][1].clear()
        chart[2].clear()
        self.same(readings(board), [FAR, (0, 0, 0), ("off", "on"), False, (0, 1, 2), 1])
        board.finish()
        board.start("off")
        self.same(board.word(), (1, 1, 1))

    def test_arguments_are_as_they_were(self):
        chart = lists(SQUARE)
        board = Board(chart, "a")
        for _ in range(5):
            board.start("b")
            board.finish()
            board.start("a")
            board.change(1)
            board.finish()
        self.assertEqual(chart, lists(SQUARE))


class TestMethodsByName(BoardChecks):
    def test_arguments_go_by_position_and_by_name(self):
        one, other = Board(FAR, "off"), Board(FAR, "off")
        for deed, label, value in (("start", "name", "on"), ("change", "field", 2), ("finish", None, None)):
            self.assertIsNone(getattr(one, deed)(*([] if label is None else [value])))
            self.assertIsNone(getattr(other, deed)(**({} if label is None else {label: value})))
            self.same(readings(one), readings(other))
        for name, label in (("look", "reader"), ("fits", "reader")):
            self.same(getattr(one, name)(READER), getattr(other, name)(**{label: READER}))

    def test_all_methods_are_there(self):
        for name in METHODS:
            self.assertIn(name, vars(Board))


class TestDeeds(BoardChecks):
    def lead(self, chart, draw, many):
        """Lead a Board by drawn deeds beside the model."""
        first = draw.choice(judging.named(chart))
        board, model = Board(draw.choice((chart, lists(chart))), first), Model(chart, first)
        for _ in range(many):
            deed, given = self.drawn_deed(draw, chart, model)
            before = readings(board)
            expected = model.do(deed, *given)
            try:
                self.assertIsNone(getattr(board, deed)(*given))
                found = None
            except (NoName, NoNumber, NotJoined, NothingDone) as error:
                found = error.__class__.__name__, vars(error)
                self.same(readings(board), before)
            self.same(found, expected)
            self.reads(board, model)
            self.reads(board.twin(), model)
        while model.past:
            self.assertIsNone(board.undo())
            self.assertIsNone(model.do("undo"))
            self.reads(board, model)
        self.same(readings(board), readings(Board(chart, first)))
        self.refused(NothingDone, {}, board.undo)

    def drawn_deed(self, draw, chart, model):
        deed = draw.choice(("start", "start", "change", "change", "change", "finish", "undo"))
        if deed == "start":
            near = [name for name in judging.named(chart) if judging.has_move(chart, model.now[1][1], name)]
            return deed, (draw.choice([*near, *near, *judging.named(chart), "x"]),)
        if deed == "change":
            return deed, (draw.choice([*model.left(), *model.left(), *range(-2, 5), HUGE, -HUGE]),)
        return deed, ()

    def test_drawn_deeds(self):
        draw = random.Random(81)
        charts = [ALONE, SQUARE, KITE, FAR, ROW, JOINED_TWINS, *drawn_charts(82, 60, 5, (2, 3, 2), 6)]
        for chart in charts:
            for _ in range(3):
                self.lead(chart, draw, 40)

    def test_sixty_deeds(self):
        board = Board(FAR, "off")
        for at in range(15):
            board.start(("on", "off")[at % 2])
            board.change(at % 3)
            board.finish()
            board.finish()
        self.same([board.deeds(), board.word(), board.ends()], [60, (1, 1, 1), ("on", "on")])
        for left in range(59, -1, -1):
            self.assertIsNone(board.undo())
            self.same(board.deeds(), left)
        self.same(readings(board), readings(Board(FAR, "off")))

    def test_start(self):
        board = Board(ROW, "b")
        self.refused(NotJoined, {"one": "b", "other": "b"}, board.start, "b")
        self.refused(NoName, {"name": "x"}, board.start, "x")
        self.same(board.deeds(), 0)
        board.start("a")
        # While the move is under way, no other one begins, wherever it leads.
        for name in "abc":
            self.refused(NotJoined, {"one": "a", "other": name}, board.start, name)
        self.refused(NoName, {"name": "x"}, board.start, "x")
        board.change(1)
        board.change(2)
        self.same([board.fields_left(), board.is_at_rest(), board.word()], [(), False, (0, 1, 2)])
        self.refused(NotJoined, {"one": "a", "other": "b"}, board.start, "b")
        board.finish()
        self.refused(NotJoined, {"one": "a", "other": "c"}, board.start, "c")
        self.assertIsNone(board.start("b"))
        self.same(board.ends(), ("a", "b"))
        with self.assertRaises(ValueError):
            board.start("b")
        with self.assertRaises(LookupError):
            board.start("x")

    def test_change(self):
        board = Board(ROW, "a")
        for field in (0, 1, 2, 3, -1, HUGE):
            self.refused(NoNumber, {"number": field}, board.change, field)
        board.start("b")
        for field in (0, 3, -1, -2, HUGE, -HUGE):
            self.refused(NoNumber, {"number": field}, board.change, field)
        board.change(2)
        self.same([board.word(), board.fields_left(), board.ends()], [(0, 1, 1), (1,), ("a", "b")])
        self.refused(NoNumber, {"number": 2}, board.change, 2)
        self.same(board.deeds(), 2)
        with self.assertRaises(LookupError):
            board.change(2)

    def test_words_that_are_alike(self):
        board = Board(JOINED_TWINS, "a")
        board.start("b")
        self.same(readings(board), [JOINED_TWINS, (0,), ("a", "b"), False, (), 1])
        self.refused(NoNumber, {"number": 0}, board.change, 0)
        board.finish()
        self.same(readings(board), [JOINED_TWINS, (0,), ("b", "b"), True, (), 2])

    def test_finish_at_rest_is_a_deed(self):
        board = Board(FAR, "on")
        for many in (1, 2, 3):
            self.assertIsNone(board.finish())
            self.same(readings(board), [FAR, (1, 1, 1), ("on", "on"), True, (), many])
        for many in (2, 1, 0):
            self.assertIsNone(board.undo())
            self.same(board.deeds(), many)
        self.refused(NothingDone, {}, board.undo)

    def test_undo(self):
        board = Board(FAR, "off")
        self.refused(NothingDone, {}, board.undo)
        with self.assertRaises(LookupError):
            board.undo()
        board.start("on")
        board.undo()
        self.same(readings(board), readings(Board(FAR, "off")))
        self.refused(NothingDone, {}, board.undo)
        board.start("on")
        board.change(0)
        board.undo()
        board.change(1)
        board.finish()
        board.undo()
        self.same(readings(board), [FAR, (0, 1, 0), ("off", "on"), False, (0, 2), 2])


class TestLooks(BoardChecks):
    def test_each_reader(self):
        draw = random.Random(83)
        for chart in (SQUARE, FAR, ROW, *drawn_charts(84, 30, 4, (2, 3), 5)):
            words, names = judging.all_words(chart), [None, *judging.named(chart)]
            board = Board(chart, judging.named(chart)[0])
            for _ in range(12):
                told = {word: draw.choice(names) for word in words}
                reader = tuple((word, name) for word, name in told.items() if name is not None)
                for form in (reader, lists(reader), [tuple(pair) for pair in reader]):
                    self.same(board.look(form), told[board.word()])
                    self.assertIs(board.fits(form), told[board.word()] in board.ends())
                self.assertEqual(tuples(lists(reader)), reader)
                self.step(board, draw)

    def step(self, board, draw):
        left, ends = board.fields_left(), board.ends()
        near = [name for name in judging.named(board.chart()) if judging.has_move(board.chart(), ends[1], name)]
        if left:
            board.change(draw.choice(left))
        elif not board.is_at_rest():
            board.finish()
        elif near:
            board.start(draw.choice(near))

    def test_either_end_fits(self):
        board = Board(ROW, "a")
        board.start("b")
        for name, fits in (("a", True), ("b", True), ("c", False)):
            self.same([board.look((((0, 1, 2), name),)), board.fits((((0, 1, 2), name),))], [name, fits])
        self.same([board.look(()), board.fits(())], [None, False])
        self.same([board.look((((0, 1, 1), "a"),)), board.fits((((0, 1, 1), "a"),))], [None, False])
        board.finish()
        for name, fits in (("a", False), ("b", True)):
            self.assertIs(board.fits((((0, 2, 1), name),)), fits)

    def test_a_look_is_no_deed(self):
        board = Board(FAR, "off")
        board.look(READER)
        board.fits(READER)
        self.same(readings(board), readings(Board(FAR, "off")))


class TestEqual(BoardChecks):
    def test_chart_word_and_ends_alone(self):
        one, other = Board(FAR, "off"), Board(lists(FAR), "off")
        self.assertTrue(one == other)
        self.assertFalse(one != other)
        one.start("on")
        self.assertFalse(one == other)
        self.assertTrue(one != other)
        other.finish()
        other.start("on")
        self.assertTrue(one == other)
        self.assertNotEqual(one.deeds(), other.deeds())
        one.change(0)
        self.assertFalse(one == other)
        other.change(1)
        self.assertFalse(one == other)
        other.change(0)
        one.change(1)
        self.assertTrue(one == other)
        one.finish()
        self.assertFalse(one == other)

    def test_one_word_and_other_ends(self):
        under_way, at_rest = Board(FAR, "off"), Board(FAR, "on")
        under_way.start("on")
        for field in range(3):
            under_way.change(field)
        self.same(under_way.word(), at_rest.word())
        self.assertFalse(under_way == at_rest)
        twins = Board(JOINED_TWINS, "a"), Board(JOINED_TWINS, "b")
        self.assertFalse(twins[0] == twins[1])

    def test_one_chart_and_another_one(self):
        for chart in ((FAR[0], FAR[1], ()), ((3, 2, 2), *FAR[1:]), (*FAR[:1], (*FAR[1], ("x", (0, 0, 1))), FAR[2])):
            self.assertFalse(Board(FAR, "on") == Board(chart, "on"))

    def test_beside_something_else(self):
        board = Board(FAR, "off")
        for other in (None, 0, True, "off", (), FAR, [FAR], board.word(), board.ends(), {}, object(), Board, ANY):
            self.assertIs(board == other, False)
            self.assertIs(board != other, True)
        self.assertTrue(board == board)

    def test_iteration_raises(self):
        board = Board(FAR, "off")
        for tried in (iter, list, tuple, set, sorted, sum, dict, enumerate, max):
            with self.assertRaises(TypeError):
                tried(board)
        with self.assertRaises(TypeError):
            for _ in board:
                pass
        with self.assertRaises(TypeError):
            first, *rest = board
        with self.assertRaises(TypeError):
            "off" in board


class TestTwin(BoardChecks):
    def test_each_goes_on_by_itself(self):
        board = Board(ROW, "a")
        board.start("b")
        board.change(1)
        twin = board.twin()
        self.assertIsInstance(twin, Board)
        self.assertIsNot(twin, board)
        self.assertTrue(twin == board)
        before = readings(board)
        self.same(readings(twin), before)
        twin.change(2)
        twin.finish()
        twin.start("c")
        self.same(readings(board), before)
        after = readings(twin)
        board.undo()
        board.undo()
        self.refused(NothingDone, {}, board.undo)
        self.same(readings(twin), after)
        for left in range(4, -1, -1):
            twin.undo()
            self.same(twin.deeds(), left)
        self.assertTrue(twin == board)
        self.refused(NothingDone, {}, twin.undo)

    def test_a_twin_of_a_twin(self):
        board = Board(FAR, "on")
        board.start("off")
        twins = [board.twin(), board.twin().twin()]
        board.finish()
        for twin in twins:
            self.same(readings(twin), [FAR, (1, 1, 1), ("on", "off"), False, (0, 1, 2), 1])

    def test_two_boards_of_one_chart_share_nothing(self):
        chart = lists(FAR)
        one, other = Board(chart, "off"), Board(chart, "off")
        one.start("on")
        one.change(1)
        self.same(readings(other), readings(Board(FAR, "off")))


class TestReturnedValues(BoardChecks):
    def test_they_are_of_tuples_and_the_same_each_time(self):
        for form in (FAR, lists(FAR)):
            board = Board(form, "off")
            board.start("on")
            board.change(1)
            for name in READINGS:
                self.same(getattr(board, name)(), getattr(board, name)())
            self.same(readings(board), [FAR, (0, 1, 0), ("off", "on"), False, (0, 2), 2])
            self.same(readings(Board(board.chart(), "on"))[0], FAR)


if __name__ == "__main__":
    unittest.main()
