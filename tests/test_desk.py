"""A desk, point [18]."""

import random
import re
import unittest

from oldornew.board import Board
from tests import judging
from tests.helping import ALONE, HUGE, KITE, PLAIN_THINGS, SQUARE, Checks
from tests.helping import drawn_charts, function_called

FAR = ((2, 2, 2), (("off", (0, 0, 0)), ("on", (1, 1, 1))), (("off", "on"),))
ROW = ((3, 3, 12), (("a", (0, 1, 11)), ("b", (0, 2, 10)), ("c", (2, 2, 0)), ("lone", (1, 0, 5))), (("a", "b"), ("b", "c")))
TWINS = ((2,), (("a", (0,)), ("b", (0,))), (("a", "b"),))
BARE = ("finish", "undo", "word", "ends", "left", "near", "rest", "deeds", "lonely")
REQUEST = re.compile(
    "start [a-z]{1,8}|change (?:0|[1-9][0-9]*)|finish|undo|word|ends|left|near|rest|deeds|may [012]|right [012]|lonely"
)
REQUESTS = (*BARE, "start a", "start abcdefgh", "start zz", "change 0", "change 10", "may 0", "may 1", "may 2",
            "right 0", "right 1", "right 2")
SIGNS = " \n0123az-AM"


def joined(values):
    return " ".join(map(str, values)) or "-"


def yes(holds):
    return "yes" if holds else "no"


def reply(board, line):
    """The reply to a request, by what a Board tells and what is worked out by trying everything."""
    word, _, last = line.partition(" ")
    if word in ("start", "change", "finish", "undo"):
        try:
            getattr(board, word)(*([] if not last else [int(last) if word == "change" else last]))
        except (LookupError, ValueError) as error:
            return "refused " + error.__class__.__name__
        return "done"
    chart, now = board.chart(), board.word()
    if word in ("may", "right"):
        told = judging.may_tell(chart, int(last))
        return joined(told.get(now, ())) if word == "may" else yes(all(told.values()))
    near = sorted(name for name in judging.named(chart) if judging.has_move(chart, board.ends()[1], name))
    return {
        "word": joined(now),
        "ends": joined(board.ends()),
        "left": joined(board.fields_left()),
        "near": joined(near),
        "rest": yes(board.is_at_rest()),
        "deeds": str(board.deeds()),
        "lonely": yes([len(event) for event in judging.showing(chart, 1, now)] == [2]),
    }[word]


class TestExamples(Checks):
    def test_far(self):
        text = ("word\nrest\nnear\nmay 1\nstart on\nends\nleft\nchange 1\nword\nmay 1\nmay 0\nlonely\nchange 1\n"
                "start off\nchange 0\nchange 2\nleft\nrest\nmay 1\nfinish\nrest\nends\ndeeds")
        right = ["0 0 0", "yes", "on", "off", "done", "off on", "0 1 2", "done", "0 1 0", "off on", "-", "yes",
                 "refused NoNumber", "refused NotJoined", "done", "done", "-", "no", "on", "done", "yes", "on on", "5"]
        self.gives(right, "replies", FAR, "off", text)

    def test_square(self):
        text = "right 1\nright 2\nstart c\nstart x\nstart b\nmay 1\nundo\nundo\nmay 2"
        right = ["yes", "no", "refused NotJoined", "refused NoName", "done", "a", "done", "refused NothingDone", "-"]
        self.gives(right, "replies", SQUARE, "a", text)

    def test_requests(self):
        self.gives(True, "is_request", "change 0")
        for text in ("change 01", "may 3", "start a b", "rest ", "start A"):
            self.gives(False, "is_request", text)
        self.gives([], "replies", FAR, "on", "")
        self.fails("BadLine", {"number": 1}, "replies", FAR, "off", "word\nlook")


class TestIsRequest(Checks):
    def test_each_kind(self):
        for text in REQUESTS:
            self.gives(True, "is_request", text)
        for text in ("start zzzzzzzz", f"change {HUGE}", "change " + "9" * 390, "change " + "1" * 5000):
            self.gives(True, "is_request", text)

    def test_near_to_right(self):
        for text in REQUESTS:
            for at in range(len(text) + 1):
                for sign in SIGNS:
                    for other in (text[:at] + sign + text[at:], text[:at] + sign + text[at + 1:], text[:at] + text[at + 1:]):
                        self.assertIs(function_called("is_request")(other), bool(REQUEST.fullmatch(other)), other)

    def test_wrong_words(self):
        for text in ("", " ", "\n", "look", "start", "change", "may", "right", "start ", "change ", "may ", "start  a",
                     "change -1", "change +1", "change 00", "change a", "change 1 2", "change 1.0", "may -1", "may 01",
                     "may 10", "right 3", "right 1 ", "finish 0", "word a", "undo undo", "Word", "WORD", "start abcdefghi",
                     "start a1", "lonely 1", "word\n", "\nword", "word\nrest", "twin", "fits", "-", "start\ta", "may\n1"):
            self.gives(False, "is_request", text)

    def test_things_of_all_kinds(self):
        for thing in PLAIN_THINGS:
            with self.subTest(repr(thing)[:60]):
                self.gives(False, "is_request", thing)
                self.gives(False, "is_request", (thing, "word"))
        for thing in (["word"], ("word",), ("start", "a"), ["change", 0], ("change", "0")):
            self.gives(False, "is_request", thing)


class TestReplies(Checks):
    def expected(self, chart, name, text):
        board = Board(chart, name)
        return [reply(board, line) for line in text.split("\n")]

    def check(self, chart, name, text):
        self.gives(self.expected(chart, name, text), "replies", chart, name, text)

    def drawn_text(self, draw, chart, many):
        names = judging.named(chart)
        lines = []
        for _ in range(many):
            kind = draw.choice(("start", "start", "change", "change", "bare", "bare", "bare", "over"))
            if kind == "start":
                lines.append("start " + draw.choice([*names, *names, "x", "abcdefgh"]))
            elif kind == "change":
                lines.append(f"change {draw.choice([0, 0, 1, 1, 2, 2, 3, HUGE])}")
            elif kind == "bare":
                lines.append(draw.choice(BARE))
            else:
                lines.append(f"{draw.choice(('may', 'right'))} {draw.choice('012')}")
        return "\n".join(lines)

    def test_drawn_requests_beside_a_board(self):
        draw = random.Random(101)
        for chart in (ALONE, SQUARE, KITE, FAR, ROW, TWINS, *drawn_charts(102, 60, 5, (2, 3, 2), 6)):
            for many in (1, 12, 60):
                self.check(chart, draw.choice(judging.named(chart)), self.drawn_text(draw, chart, many))

    def test_each_request_alone(self):
        for chart in (ALONE, SQUARE, KITE, FAR, ROW, TWINS):
            for name in judging.named(chart):
                for text in REQUESTS:
                    self.check(chart, name, text)

    def test_nothing_to_tell(self):
        self.gives(["-", "-", "yes", "0"], "replies", ROW, "lone", "left\nnear\nrest\ndeeds")
        self.gives(["-", "b", "no"], "replies", TWINS, "a", "may 1\nnear\nright 1")
        text = "start b\nrest\nleft\nends\nnear\ndeeds"
        self.gives(["done", "no", "-", "a b", "a", "1"], "replies", TWINS, "a", text)

    def test_halfway(self):
        # No EVENT over 0 shows the WORD that the Board has then.
        chart = ((2, 2), (("a", (0, 0)), ("b", (1, 1))), (("a", "b"),))
        text = "start b\nchange 0\nmay 0\nmay 1\nmay 2\nlonely\nfinish\nlonely"
        self.gives(["done", "done", "-", "a b", "a b", "yes", "done", "no"], "replies", chart, "a", text)

    def test_what_is_refused_changes_nothing(self):
        text = "undo\nstart a\nstart c\nstart x\nchange 0\ndeeds\nends\nword"
        right = ["refused NothingDone", "refused NotJoined", "refused NotJoined", "refused NoName", "refused NoNumber",
                 "0", "a a", "0 1 11"]
        self.gives(right, "replies", ROW, "a", text)
        text = "start b\nstart x\nstart b\nstart a\nchange 0\nchange 3\nleft\ndeeds\nundo\nrest"
        right = ["done", "refused NoName", "refused NotJoined", "refused NotJoined", "refused NoNumber",
                 "refused NoNumber", "1 2", "1", "done", "yes"]
        self.gives(right, "replies", ROW, "a", text)

    def test_each_desk_begins_anew(self):
        for _ in range(2):
            self.gives(["done", "done", "1 1 1"], "replies", FAR, "off", "start on\nfinish\nword")
        self.is_new("replies", FAR, "off", "word\nrest")
        self.is_new("replies", FAR, "off", "")

    def test_no_such_state(self):
        for text in ("", "word", "look", "word\nlook", "\n"):
            self.fails("NoName", {"name": "x"}, "replies", FAR, "x", text)
        with self.assertRaises(LookupError):
            function_called("replies")(FAR, "x", "")

    def test_lines_that_are_no_requests(self):
        rows = (("\n", 0), ("word\n", 1), ("\nword", 0), ("word\n\nrest", 1), (" ", 0), ("undo\nundo\nmay 3", 2),
                ("start x\nlook", 1), ("look\nlook", 0), ("start a b", 0), ("word\nrest \nlook", 1), ("change 01", 0))
        for text, number in rows:
            self.fails("BadLine", {"number": number}, "replies", FAR, "off", text)
        with self.assertRaises(ValueError):
            function_called("replies")(FAR, "off", "look")

    def test_sixty_lines_over_2(self):
        states = tuple((name, (at % 2, at // 2 % 2, at // 4, at % 3)) for at, name in enumerate("abcdefgh"))
        moves = tuple(sorted([*zip("abcdefg", "bcdefgh"), ("a", "h"), ("a", "d"), ("b", "f"), ("c", "g"), ("d", "h")]))
        chart = ((2, 2, 2, 3), states, moves)
        self.check(chart, "a", "\n".join(["start b", "change 0", "may 2", "right 2", "lonely", "finish"] * 10))

    def test_twenty_great_fields(self):
        chart = ((HUGE,) * 20, (("u", (0,) * 20), ("v", (HUGE - 1,) * 20)), (("u", "v"),))
        text = "right 2\nmay 2\nstart v\nchange 19\nchange 20\nmay 1\nmay 0\nlonely\nword"
        word = " ".join(["0"] * 19 + [str(HUGE - 1)])
        right = ["yes", "u", "done", "done", "refused NoNumber", "u v", "-", "yes", word]
        self.gives(right, "replies", chart, "u", text)


if __name__ == "__main__":
    unittest.main()
