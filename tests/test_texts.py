"""Texts, point [17]."""

import random
import re
import unittest

from tests import judging
from tests.helping import ALONE, HUGE, KITE, SQUARE, Checks
from tests.helping import drawn_charts, function_called, great_chart, lists, ring, small_charts

CHART = ((2, 2), (("a", (0, 0)), ("b", (0, 1)), ("c", (1, 1))), (("a", "b"), ("b", "c")))
TEXT = "2 2\na 0 0\nb 0 1\nc 1 1\na b\nb c"
LONG_NAMES = ((12, 3), (("a", (11, 0)), ("aa", (10, 2)), ("abcdefgh", (0, 1)), ("z", (7, 2))), (("a", "aa"), ("a", "z")))
READER = (((0, 0), "a"), ((0, 1), "b"), ((10, 0), "abcdefgh"))
# What a number and a NAME are, once more.
NUMBER = "(?:0|[1-9][0-9]*)"
NAME = "[a-z]{1,8}"
# Signs to be put into right texts, so that they are near to right ones.
SIGNS = " \n0123az-:;A+_.,"


def numbers(text):
    return tuple(map(int, text.split()))


def is_numbers(text):
    return re.fullmatch(f"{NUMBER}(?: {NUMBER})*", text)


def is_names(text):
    return re.fullmatch(f"{NAME}(?: {NAME})*", text)


def read_chart(text):
    """The CHART with this text, or the number of the wrong line."""
    lines = text.split("\n")
    if not is_numbers(lines[0]) or min(numbers(lines[0])) < 2:
        return 0
    sizes, states, moves = numbers(lines[0]), [], []
    for number, line in enumerate(lines[1:], 1):
        if re.fullmatch(f"{NAME}(?: {NUMBER})+", line) and not moves:
            name, word = line.split(" ", 1)
            fits = len(numbers(word)) == len(sizes) and all(map(int.__lt__, numbers(word), sizes))
            if not fits or any(name <= other for other, _ in states):
                return number
            states.append((name, numbers(word)))
        elif re.fullmatch(f"{NAME} {NAME}", line):
            move = tuple(line.split())
            if move[0] >= move[1] or not set(move) <= {name for name, _ in states}:
                return number
            if any(move <= other for other in moves):
                return number
            moves.append(move)
        else:
            return number
    return (sizes, tuple(states), tuple(moves)) if states else len(lines)


def read_reader(text):
    """The READER with this text, or the number of the wrong line."""
    if text == "-":
        return ()
    found = []
    for number, line in enumerate(text.split("\n")):
        if not re.fullmatch(f"{NUMBER}(?: {NUMBER})*: {NAME}", line):
            return number
        word, name = line.split(": ")
        if found and numbers(word) <= found[-1][0]:
            return number
        found.append((numbers(word), name))
    return tuple(found)


def read_lots(text):
    if text == "-":
        return ()
    parts = text.split("; ")
    if not all(is_names(part) and part.split() == sorted(set(part.split())) for part in parts):
        return None
    return tuple(tuple(part.split()) for part in parts)


def near_to(text):
    """The text with one sign more, less, or another one, at each place."""
    for at in range(len(text) + 1):
        for sign in SIGNS:
            yield text[:at] + sign + text[at:]
            yield text[:at] + sign + text[at + 1:]
        yield text[:at] + text[at + 1:]


class TestExamples(Checks):
    def test_charts(self):
        self.gives(TEXT, "chart_text", CHART)
        self.gives("3\nz 2", "chart_text", ((3,), (("z", (2,)),), ()))
        self.gives(CHART, "chart_read", TEXT)
        self.fails("BadLine", {"number": 2}, "chart_read", "2 2\na 0 0\nb 0 2")
        self.fails("BadLine", {"number": 1}, "chart_read", "2 2")

    def test_texts(self):
        self.gives("0 10", "word_text", (0, 10))
        self.gives("a b a", "walk_text", ("a", "b", "a"))
        self.gives("a b; c", "lots_text", (("a", "b"), ("c",)))
        self.gives("-", "lots_text", ())
        self.gives("0 0: a\n0 1: b", "reader_text", (((0, 0), "a"), ((0, 1), "b")))
        self.gives("-", "reader_text", ())

    def test_reads(self):
        self.gives((0, 10), "word_read", "0 10")
        self.gives(("a", "b", "a"), "walk_read", "a b a")
        self.gives((("a", "b"), ("c",)), "lots_read", "a b; c")
        self.gives((), "lots_read", "-")
        self.gives((((0, 0), "a"), ((0, 1), "b")), "reader_read", "0 0: a\n0 1: b")
        self.gives((), "reader_read", "-")
        self.fails("BadLine", {"number": 1}, "reader_read", "0 1: b\n0 0: a")
        self.fails("BadText", {}, "lots_read", "b a")


class TestWords(Checks):
    def test_there_and_back(self):
        for word in ((0,), (1,), (9, 10, 11), (100, 0, 7), (HUGE, 0, HUGE - 1), (0,) * 20, tuple(range(100))):
            text = " ".join(map(str, word))
            self.gives(text, "word_text", word)
            self.gives(word, "word_read", text)

    def test_near_to_right(self):
        for text in ("0", "7", "10", "0 10", "12 0 3"):
            for other in near_to(text):
                if is_numbers(other):
                    self.gives(numbers(other), "word_read", other)
                else:
                    self.fails("BadText", {}, "word_read", other)

    def test_other_texts(self):
        for text in ("", " ", "  ", "\n", "-", "-1", "+1", "1_0", "00", "01", "1.0", "0x1", "1e2", "a", "1 ", " 1", "1  2",
                     "1,2", "(1)", "1\n2", "1 2\n", "\n1", "1\t2"):
            self.fails("BadText", {}, "word_read", text)

    def test_long_lines(self):
        word = tuple(10 ** 39 + at for at in range(9))
        self.gives(word, "word_read", function_called("word_text")(word))
        self.gives((10 ** 399,), "word_read", "1" + "0" * 399)


class TestWalks(Checks):
    def test_there_and_back(self):
        for walk in (("a",), ("a", "a"), ("abcdefgh", "z", "a"), ("off", "on") * 30):
            self.gives(" ".join(walk), "walk_text", walk)
            self.gives(walk, "walk_read", " ".join(walk))

    def test_near_to_right(self):
        for text in ("a", "zz", "a b a", "abcdefgh b", "b abcdefg"):
            for other in near_to(text):
                if is_names(other):
                    self.gives(tuple(other.split()), "walk_read", other)
                else:
                    self.fails("BadText", {}, "walk_read", other)

    def test_other_texts(self):
        for text in ("", " ", "\n", "-", "abcdefghi", "a abcdefghi", "a b ", " a", "a  b", "a\nb", "a b\n", "A", "a B",
                     "a1", "a,b", "a;b", "a_b", "a-b"):
            self.fails("BadText", {}, "walk_read", text)


class TestLots(Checks):
    def test_there_and_back(self):
        rows = ((), (("a",),), (("b",), ("a",)), (("a", "b"), ("a", "b")), (("a", "aa", "abcdefgh", "b"), ("z",), ("a", "z")))
        for lots in rows:
            text = "; ".join(map(" ".join, lots)) or "-"
            self.gives(text, "lots_text", lots)
            self.gives(lots, "lots_read", text)

    def test_near_to_right(self):
        for text in ("-", "a", "a b; c", "b c; a; a z", "abcdefgh b"):
            for other in near_to(text):
                right = read_lots(other)
                if right is None:
                    self.fails("BadText", {}, "lots_read", other)
                else:
                    self.gives(right, "lots_read", other)

    def test_other_texts(self):
        for text in ("", " ", ";", "; ", "a;", "a; ", "; a", "a;b", "a ; b", "a;  b", "a; -", "-; a", "--", "- ", "-\n", "b a",
                     "a a", "a b; b a", "a\nb", "a; b\n", "A", "abcdefghi", "a; 1"):
            self.fails("BadText", {}, "lots_read", text)


class TestCharts(Checks):
    def expected(self, chart):
        rows = [chart[0], *((name, *word) for name, word in chart[1]), *chart[2]]
        return "\n".join(" ".join(map(str, row)) for row in rows)

    def test_there_and_back(self):
        charts = (ALONE, SQUARE, KITE, CHART, LONG_NAMES, ring(3), ring(10), great_chart(), *list(small_charts())[::5])
        for chart in (*charts, *drawn_charts(91, 40, 10, (2, 10, 101), 12)):
            self.gives(self.expected(chart), "chart_text", chart)
            self.gives(chart, "chart_read", self.expected(chart))

    def test_near_to_right(self):
        for text in (TEXT, "3\nz 2", "2 12\na 1 11\naa 0 0\na aa", "10\nb 9\nc 9\nd 0\nb c\nb d\nc d"):
            for other in near_to(text):
                self.check(other)

    def check(self, text):
        right = read_chart(text)
        if isinstance(right, int):
            self.fails("BadLine", {"number": right}, "chart_read", text)
        else:
            self.gives(right, "chart_read", text)
            self.assertEqual(function_called("chart_text")(right), text)
            self.assertTrue(function_called("is_chart")(right))

    def test_lines_in_other_orders(self):
        draw = random.Random(92)
        lines = TEXT.split("\n")
        for _ in range(300):
            some = draw.choices(lines, k=draw.randint(1, 8)) if draw.random() < 0.5 else draw.sample(lines, len(lines))
            self.check("\n".join(some))
            self.check("\n".join([lines[0], *some]))

    def test_wrong_lines(self):
        rows = (
            ("", 0), ("\n", 0), (" ", 0), ("-", 0), ("a", 0), ("1", 0), ("0", 0), ("2 1", 0), ("02", 0), ("2  2", 0),
            ("2 2 ", 0), (" 2 2", 0), ("2 -2", 0), ("2\n", 1), ("2", 1), ("2\na", 1), ("2\na 2", 1), ("2\na 0 0", 1),
            ("2 2\na 0", 1), ("2\na 00", 1), ("2\na -0", 1), ("2\na +1", 1), ("2\nA 0", 1), ("2\nabcdefghi 0", 1),
            ("2\na 0\n", 2), ("2\na 0\n\n", 2), ("2\na 0\na 1", 2), ("2\nb 0\na 1", 2), ("2\na 0\na a", 2),
            ("2\na 0\na b", 2), ("2\na 0\nb 0\nb a", 3), ("2\na 0\nb 0\na b\n", 4), ("2\na 0\nb 0\na b\na b", 4),
            ("2\na 0\nb 0\na b\nc 0", 4), ("2\na b", 1), ("2\na 0\nb 0\na  b", 3), ("2\na 0\nb 0\na b c", 3),
            ("2\na 0\nb 0\nc 0\na c\na b", 5), ("2\na 0\nb 0\nc 0\nb c\na b", 5), ("2\na 0\nb 0\n2", 3),
            ("2\na  0", 1), ("2\na 0 ", 1), ("2\n a 0", 1), ("2\na\t0", 1), ("2\n0 a", 1), ("2\n0", 1), ("2\n0 0", 1),
        )
        for text, number in rows:
            self.assertEqual(read_chart(text), number)
            self.fails("BadLine", {"number": number}, "chart_read", text)
        with self.assertRaises(ValueError):
            function_called("chart_read")("2")

    def test_however_many_states(self):
        names = sorted(first + second for first in "abcdefg" for second in "abcdefgh")
        states = tuple((name, (at, 0)) for at, name in enumerate(names))
        chart = ((56, 2), states, (("aa", "ab"), ("fh", "gh")))
        self.assertEqual(len(self.expected(chart).split("\n")), 59)
        self.gives(chart, "chart_read", self.expected(chart))

    def test_great_numbers(self):
        text = f"{10 ** 40} 2\na {10 ** 40 - 1} 1"
        self.gives(((10 ** 40, 2), (("a", (10 ** 40 - 1, 1)),), ()), "chart_read", text)
        self.fails("BadLine", {"number": 1}, "chart_read", f"{10 ** 40} 2\na {10 ** 40} 1")

    def test_a_chart_of_lists_has_the_same_text(self):
        self.assertEqual(function_called("chart_text")(lists(LONG_NAMES)), self.expected(LONG_NAMES))


class TestReaders(Checks):
    def test_there_and_back(self):
        for reader in ((), READER, READER[:1], tuple((word, "a") for word in judging.all_words(SQUARE))):
            text = "\n".join(" ".join(map(str, word)) + ": " + name for word, name in reader) or "-"
            self.gives(text, "reader_text", reader)
            self.gives(reader, "reader_read", text)

    def test_of_whatever_chart(self):
        reader = (((0,), "z"), ((0, 0), "a"), ((0, 0, HUGE), "a"), ((1,), "b"), ((HUGE, 3), "b"))
        self.gives(reader, "reader_read", function_called("reader_text")(reader))

    def test_near_to_right(self):
        for text in ("-", "0: a", "0 0: a\n0 1: b", "0 9: a\n0 10: bb\n1 0: abcdefgh"):
            for other in near_to(text):
                right = read_reader(other)
                if isinstance(right, int):
                    self.fails("BadLine", {"number": right}, "reader_read", other)
                else:
                    self.gives(right, "reader_read", other)

    def test_wrong_lines(self):
        rows = (
            ("", 0), (" ", 0), ("\n", 0), ("-\n", 0), ("-\n0: a", 0), ("0: a\n-", 1), ("0: a\n", 1), ("0: a\n\n1: b", 1),
            (": a", 0), ("0:a", 0), ("0 : a", 0), ("0:  a", 0), ("0: a ", 0), (" 0: a", 0), ("00: a", 0), ("-1: a", 0),
            ("0: A", 0), ("0: abcdefghi", 0), ("0: ", 0), ("0: 0", 0), ("a: 0", 0), ("0 a", 0), ("0: a: b", 0),
            ("0: a b", 0), ("0  0: a", 0), ("0: a\n0: a", 1), ("0: a\n0: b", 1), ("1: a\n0: b", 1), ("0 0: a\n0: a", 1),
            ("9: a\n10: a\n2: a", 2), ("--", 0), ("- ", 0),
        )
        for text, number in rows:
            self.assertEqual(read_reader(text), number)
            self.fails("BadLine", {"number": number}, "reader_read", text)
        with self.assertRaises(ValueError):
            function_called("reader_read")("")

    def test_sixty_lines(self):
        reader = tuple(((at, 10 ** 39), "abcdefgh") for at in range(60))
        self.gives(reader, "reader_read", function_called("reader_text")(reader))

    def test_a_reader_of_a_chart_is_read_as_it_is(self):
        for chart in (SQUARE, CHART, *drawn_charts(93, 20, 4, (3, 4), 3)):
            for long in range(3):
                if judging.is_right(chart, long):
                    reader = function_called("a_reader")(chart, long)
                    text = self.result("reader_text", reader)
                    self.gives(reader, "reader_read", text)
                    self.gives(True, "is_reader", chart, long, function_called("reader_read")(text))


class TestErrors(Checks):
    def test_the_error_has_its_builtin_base_class(self):
        for name in ("word_read", "walk_read", "lots_read", "chart_read", "reader_read"):
            with self.assertRaises(ValueError):
                function_called(name)("?")


if __name__ == "__main__":
    unittest.main()
