"""Counts, point [13]."""

import random
import unittest
from itertools import combinations
from math import prod

from tests import judging
from tests.helping import ALONE, HUGE, KITE, LETTERS, SQUARE, Checks
from tests.helping import drawn_charts, drawn_chart, function_called, ring, small_charts

FAR = ((2, 2, 2), (("off", (0, 0, 0)), ("on", (1, 1, 1))), (("off", "on"),))
CROSSED = (
    (2, 2),
    (("a", (0, 0)), ("b", (0, 1)), ("c", (1, 1))),
    (("a", "b"), ("a", "c"), ("b", "c")),
)
GREAT = ((10,) * 20, (("u", (0,) * 20), ("v", (9,) * 20)), (("u", "v"),))
TWINS = ((2,), (("a", (0,)), ("b", (0,))), ())
JOINED_TWINS = (*TWINS[:2], (("a", "b"),))
STILL = (*SQUARE[:2], ())
# Most WORDS are met by nobody.
SPARSE = ((5, 4), (("p", (0, 3)), ("q", (4, 3)), ("r", (2, 0))), (("p", "q"),))
# Eight states, twelve moves, 2,592 WORDS in all.
FULL = (
    (3, 3, 3, 3, 4, 8),
    tuple((name, tuple((at + field) % 3 for field in range(5)) + (at,)) for at, name in enumerate("abcdefgh")),
    tuple(sorted([("a", name) for name in "cdefgh"] + [("b", name) for name in "cdefgh"])),
)
STAR = tuple(("a", name) for name in "bcdef")
ROW = tuple(zip("abcde", "bcdef"))


def charts_to_try():
    yield from (ALONE, SQUARE, KITE, FAR, CROSSED, TWINS, JOINED_TWINS, STILL, SPARSE, ring(3), ring(6))
    yield from list(small_charts())[::2]
    yield from drawn_charts(51, 30, 4, (2, 2, 2), 5)
    yield from drawn_charts(52, 30, 6, (3, 4), 6)
    yield from drawn_charts(53, 30, 3, (7, 2), 2)
    yield from drawn_charts(54, 30, 3, (3, 2, 2, 3), 2)


def wide_charts():
    """CHARTS of six states, 20 fields of 10 values."""
    draw = random.Random(55)
    everyone = LETTERS[:6]
    for moves in (ring(6)[2], ROW, (*ROW[:4], ("d", "f")), STAR[:3], (("a", "b"), ("c", "d"), ("e", "f"))):
        for values in (2, 3, 10):
            states = tuple((name, tuple(draw.randrange(values) for _ in range(20))) for name in everyone)
            yield (10,) * 20, states, tuple(sorted(moves))
        # Fields at which most states are alike, so that much is met in common.
        states = tuple((name, tuple(int(draw.randrange(5) == 0) for _ in range(20))) for name in everyone)
        yield (10,) * 20, states, tuple(sorted(moves))


def how_many_shown(chart, events):
    """How many WORDS are in the BOX of some of these EVENTS, by counting in and out."""
    boxes = [judging.values_of(chart, event) for event in events]
    # A BOX within another one adds nothing.
    kept = [box for at, box in enumerate(boxes) if not any(
        all(values <= wider for values, wider in zip(box, other)) and (box != other or before < at)
        for before, other in enumerate(boxes) if before != at)]
    total = 0
    rows = [(1, [set(range(size)) for size in chart[0]])]
    for box in kept:
        rows += [(-sign, [one & other for one, other in zip(held, box)]) for sign, held in rows]
        rows = [(sign, held) for sign, held in rows if all(held)]
    for sign, held in rows[1:]:
        total -= sign * prod(map(len, held))
    return total


def how_many_told(chart, long, some):
    """At how many WORDS that are met all of these states may be told."""
    known = judging.all_events(chart, long)
    others = [event for event in known if not set(some) <= set(event)]
    return how_many_shown(chart, known) - (how_many_shown(chart, others) if others else 0)


class TestExamples(Checks):
    def test_far(self):
        self.gives(2, "how_many_met", FAR, 0)
        self.gives(8, "how_many_met", FAR, 1)
        self.gives(0, "how_many_barred", FAR, 1)
        self.gives(7, "how_many_may", FAR, 1, "on")
        self.gives(1, "how_many_must", FAR, 1, "on")
        self.gives(6, "how_many_lonely", FAR)
        self.gives(64, "how_many_readers", FAR, 1)
        self.gives(1, "how_many_readers", FAR, 0)

    def test_readers_of_far(self):
        self.gives(True, "is_lonely", FAR, (0, 1, 0))
        self.gives(False, "is_lonely", FAR, (1, 1, 1))
        first, last = self.result("nth_reader", FAR, 1, 0), self.result("nth_reader", FAR, 1, 63)
        self.assertEqual(first[1:3], (((0, 0, 1), "off"), ((0, 1, 0), "off")))
        self.assertEqual(last[1:3], (((0, 0, 1), "on"), ((0, 1, 0), "on")))
        self.gives(37, "number_of_reader", FAR, 1, self.result("nth_reader", FAR, 1, 37))
        self.gives(None, "number_of_reader", FAR, 1, (((0, 0, 0), "off"),))

    def test_crossed(self):
        self.gives(4, "how_many_met", CROSSED, 1)
        self.gives(1, "how_many_barred", CROSSED, 1)
        self.gives(2, "how_many_may", CROSSED, 1, "a")
        self.gives(1, "how_many_must", CROSSED, 1, "a")
        self.gives(1, "how_many_lonely", CROSSED)
        self.gives(0, "how_many_readers", CROSSED, 1)

    def test_great(self):
        self.gives(1048576, "how_many_met", GREAT, 1)
        self.gives(1048574, "how_many_lonely", GREAT)
        self.gives(1, "how_many_must", GREAT, 1, "u")
        self.gives(True, "is_lonely", GREAT, (0, 9) * 10)

    def test_errors(self):
        self.fails("NoNumber", {"number": 0}, "nth_reader", CROSSED, 1, 0)
        self.fails("NoName", {"name": "x"}, "how_many_may", FAR, 1, "x")


class TestCountsOfWords(Checks):
    def test_against_all_words(self):
        for chart in charts_to_try():
            for long in range(3):
                told = judging.may_tell(chart, long)
                self.gives(len(told), "how_many_met", chart, long)
                self.gives(sum(able == () for able in told.values()), "how_many_barred", chart, long)
                for name in judging.named(chart):
                    may = sum(name in able for able in told.values())
                    self.gives(may, "how_many_may", chart, long, name)
                    must = sum(able == (name,) for able in told.values())
                    self.gives(must, "how_many_must", chart, long, name)

    def test_as_may_tell_tells(self):
        for chart in list(charts_to_try())[::7]:
            words = judging.all_words(chart)
            for long in range(3):
                told = [function_called("may_tell")(chart, long, word) for word in words]
                self.gives(sum(able is not None for able in told), "how_many_met", chart, long)
                self.gives(sum(able == () for able in told), "how_many_barred", chart, long)

    def test_many_wide_fields(self):
        for chart in wide_charts():
            for long in range(3):
                met = how_many_told(chart, long, ())
                self.gives(met, "how_many_met", chart, long)
                for name in "ace":
                    self.gives(how_many_told(chart, long, (name,)), "how_many_may", chart, long, name)

    def test_barred_and_must_in_many_wide_fields(self):
        for chart in list(wide_charts())[1::2]:
            for long in range(3):
                known = judging.all_events(chart, long)
                sets = {some for event in known for many in range(4) for some in combinations(event, many)}
                told = {some: how_many_told(chart, long, some) for some in sets}
                barred = sum((-1) ** len(some) * told[some] for some in sets)
                self.gives(barred, "how_many_barred", chart, long)
                for name in "bd":
                    must = sum((-1) ** (len(some) - 1) * told[some] for some in sets if name in some)
                    self.gives(must, "how_many_must", chart, long, name)

    def test_fields_that_add_nothing(self):
        # A field at which all are alike, a size that nobody needs.
        for chart in drawn_charts(56, 12, 4, (2, 3), 4):
            grown = chart
            for _ in range(18):
                grown = function_called("with_field")(grown, 10, (7,) * len(chart[1]))
            for long in range(3):
                told = judging.may_tell(chart, long)
                self.gives(len(told), "how_many_met", grown, long)
                self.gives(sum(able == () for able in told.values()), "how_many_barred", grown, long)

    def test_all_words_of_twenty_fields(self):
        every = ((10,) * 20, tuple((name, (at,) * 20) for at, name in enumerate("abcdef")), STAR)
        # Each move from a, and each two of them, show two or three values at each field.
        self.gives(6, "how_many_met", every, 0)
        self.gives(5 * (2 ** 20 - 2) + 6, "how_many_met", every, 1)
        self.gives(5 * (2 ** 20 - 2), "how_many_lonely", every)
        self.gives(5 * (2 ** 20 - 2) + 1, "how_many_may", every, 1, "a")
        self.gives(2 ** 20 - 1, "how_many_may", every, 1, "b")
        self.gives(0, "how_many_barred", every, 2)
        three = 10 * (3 ** 20 - 3 * 2 ** 20 + 3)
        two = 15 * (2 ** 20 - 2)
        self.gives(three + two + 6, "how_many_met", every, 2)

    def test_one_state(self):
        for long in range(3):
            self.gives(1, "how_many_met", ALONE, long)
            self.gives(0, "how_many_barred", ALONE, long)
            self.gives(1, "how_many_may", ALONE, long, "a")
            self.gives(1, "how_many_must", ALONE, long, "a")
        self.gives(0, "how_many_lonely", ALONE)

    def test_states_of_one_word(self):
        for long in range(3):
            for chart in (TWINS, JOINED_TWINS):
                self.gives(1, "how_many_met", chart, long)
                self.gives(1, "how_many_barred", chart, long)
                self.gives(0, "how_many_may", chart, long, "a")

    def test_names_that_are_no_states(self):
        for chart in (ALONE, CROSSED, GREAT):
            for long in range(3):
                for name in ("x", "aa", "abcdefgh"):
                    self.fails("NoName", {"name": name}, "how_many_may", chart, long, name)
                    self.fails("NoName", {"name": name}, "how_many_must", chart, long, name)
        with self.assertRaises(LookupError):
            function_called("how_many_must")(FAR, 0, "x")


class TestLonely(Checks):
    def lonely(self, chart):
        """All WORDS that just one EVENT over 1 shows, one of two states."""
        words = judging.all_words(chart)
        return [word for word in words if [len(event) for event in judging.showing(chart, 1, word)] == [2]]

    def test_against_all_words(self):
        for chart in charts_to_try():
            lonely = self.lonely(chart)
            self.gives(len(lonely), "how_many_lonely", chart)
            words = judging.all_words(chart)
            for word in words[::1 + len(words) // 12]:
                self.gives(word in lonely, "is_lonely", chart, word)

    def test_one_event_of_one_state(self):
        self.gives(False, "is_lonely", STILL, (0, 0))
        self.gives(False, "is_lonely", ALONE, (1,))
        self.gives(False, "is_lonely", ALONE, (0,))
        self.gives(0, "how_many_lonely", STILL)

    def test_one_event_of_two_states(self):
        chart = ((3, 3), (("a", (0, 0)), ("b", (1, 1)), ("c", (2, 2))), (("a", "b"),))
        self.gives(2, "how_many_lonely", chart)
        for word in judging.all_words(chart):
            self.gives(word in ((0, 1), (1, 0)), "is_lonely", chart, word)
        # The same WORDS, when another state is at rest at one of them.
        taken = (*chart[:1], (*chart[1][:2], ("c", (1, 0))), chart[2])
        self.gives(1, "how_many_lonely", taken)
        self.gives(False, "is_lonely", taken, (1, 0))

    def test_wide_fields(self):
        for chart in wide_charts():
            lonely = how_many_lonely_by_boxes(chart)
            self.gives(lonely, "how_many_lonely", chart)

    def test_words_of_wide_fields(self):
        for word in ((0,) * 20, (9,) * 20, (0,) * 19 + (1,), (0, 9) * 9 + (0, 5)):
            self.gives(False, "is_lonely", GREAT, word)
        for word in ((0,) * 19 + (9,), (9,) * 19 + (0,), (9, 0) * 10):
            self.gives(True, "is_lonely", GREAT, word)

    def test_guarantee(self):
        for chart in charts_to_try():
            if judging.is_right(chart, 1):
                many = 2 ** function_called("how_many_lonely")(chart)
                self.assertEqual(judging.how_many_right(chart, 1), many)
                self.gives(many, "how_many_readers", chart, 1)


def how_many_lonely_by_boxes(chart):
    """For each move the WORDS of its BOX, less those that some other EVENT over 1 shows, too."""
    known = judging.all_events(chart, 1)
    lonely = 0
    for move in chart[2]:
        others = [event for event in known if event != move]
        lonely += how_many_shown(chart, known) - how_many_shown(chart, others)
    return lonely


class TestReaders(Checks):
    def test_against_all_readers(self):
        for chart in charts_to_try():
            for long in range(3):
                many = judging.how_many_right(chart, long)
                self.gives(many, "how_many_readers", chart, long)
                if many > 40:
                    continue
                for number, reader in enumerate(sorted(judging.right_readers(chart, long))):
                    self.gives(reader, "nth_reader", chart, long, number)
                    self.gives(number, "number_of_reader", chart, long, reader)
                for number in (-1, many, many + 1, -HUGE, HUGE):
                    self.fails("NoNumber", {"number": number}, "nth_reader", chart, long, number)

    def test_they_ascend(self):
        readers = [function_called("nth_reader")(FAR, 1, number) for number in range(64)]
        self.assertEqual(readers, sorted(judging.right_readers(FAR, 1)))

    def test_several_states_may_be_told(self):
        # Over 2 three states may be told where the only EVENT has all of them.
        chart = ((3, 3, 3), tuple((name, (at,) * 3) for at, name in enumerate("abc")), (("a", "b"), ("b", "c")))
        self.assertIn(("a", "b", "c"), judging.may_tell(chart, 2).values())
        many = judging.how_many_right(chart, 2)
        self.gives(many, "how_many_readers", chart, 2)
        for number in (0, 1, 2, 3, 7, many // 5, many // 2, many - 2, many - 1):
            reader = self.result("nth_reader", chart, 2, number)
            self.assertTrue(judging.is_told_right(chart, 2, reader))
            self.gives(number, "number_of_reader", chart, 2, reader)
        told = judging.may_tell(chart, 2)
        self.gives(tuple((word, told[word][0]) for word in sorted(told)), "nth_reader", chart, 2, 0)
        self.gives(tuple((word, told[word][-1]) for word in sorted(told)), "nth_reader", chart, 2, many - 1)

    def test_no_reader(self):
        for chart in (TWINS, JOINED_TWINS):
            for long in range(3):
                self.gives(0, "how_many_readers", chart, long)
                for number in (-1, 0, 1, HUGE):
                    self.fails("NoNumber", {"number": number}, "nth_reader", chart, long, number)
                for reader in ((), (((0,), "a"),), (((0,), "b"),), (((0,), "a"), ((1,), "a"))):
                    self.gives(None, "number_of_reader", chart, long, reader)

    def test_readers_that_are_none_of_these(self):
        for chart, long in ((SPARSE, 0), (SPARSE, 2), (FAR, 1), (STILL, 1)):
            reader = function_called("nth_reader")(chart, long, 0)
            self.gives(0, "number_of_reader", chart, long, reader)
            self.gives(None, "number_of_reader", chart, long, ())
            for at, (word, name) in enumerate(reader):
                self.gives(None, "number_of_reader", chart, long, reader[:at] + reader[at + 1:])
                for other in judging.named(chart):
                    changed = (*reader[:at], (word, other), *reader[at + 1:])
                    right = judging.is_told_right(chart, long, changed)
                    found = self.result("number_of_reader", chart, long, changed)
                    self.assertEqual(found is not None, right)
            for word in judging.all_words(chart):
                if word not in dict(reader):
                    more = tuple(sorted((*reader, (word, reader[0][1]))))
                    self.gives(None, "number_of_reader", chart, long, more)

    def test_many_words_that_are_not_met(self):
        # 2,880 WORDS in all, 64 of them in the BOX of the move.
        chart = ((2, 2, 2, 2, 2, 90), (("a", (0,) * 6), ("b", (1,) * 5 + (89,))), (("a", "b"),))
        self.gives(2 ** 62, "how_many_readers", chart, 1)
        for number in (0, 1, 2 ** 61 + 12345, 2 ** 62 - 1):
            self.gives(number, "number_of_reader", chart, 1, self.result("nth_reader", chart, 1, number))
        self.fails("NoNumber", {"number": 2 ** 62}, "nth_reader", chart, 1, 2 ** 62)

    def test_great_numbers(self):
        states = (("a", (0,) * 6), ("b", (1,) * 6), ("c", (2,) * 6))
        chart = ((3, 3, 3, 3, 3, 4), states, (("a", "b"), ("b", "c")))
        many = judging.how_many_right(chart, 2)
        self.assertGreater(many, 3 ** 500)
        self.gives(many, "how_many_readers", chart, 2)
        for number in (HUGE, many // 2, many // 7 * 3, many - 1):
            reader = function_called("nth_reader")(chart, 2, number)
            self.assertEqual(function_called("number_of_reader")(chart, 2, reader), number)
            self.assertTrue(function_called("is_reader")(chart, 2, reader))
        for number in (many, many + 1, -many, 2 * many):
            self.fails("NoNumber", {"number": number}, "nth_reader", chart, 2, number)

    def test_eight_states(self):
        for long in range(3):
            self.gives(judging.how_many_right(FULL, long), "how_many_readers", FULL, long)
        reader = function_called("nth_reader")(FULL, 1, 5)
        self.assertTrue(judging.is_told_right(FULL, 1, reader))
        self.assertEqual(function_called("number_of_reader")(FULL, 1, reader), 5)

    def test_the_error_has_its_builtin_base_class(self):
        with self.assertRaises(LookupError):
            function_called("nth_reader")(FAR, 1, 64)


class TestGuarantees(Checks):
    def test_none_is_barred_exactly_if_right(self):
        for chart in charts_to_try():
            for long in range(3):
                barred = function_called("how_many_barred")(chart, long)
                self.gives(barred == 0, "is_right", chart, long)
                self.assertEqual(function_called("how_many_readers")(chart, long) > 0, barred == 0)

    def test_twenty_fields(self):
        draw = random.Random(57)
        for _ in range(60):
            chart = drawn_chart(draw, 6, (3,) * 20, draw.randint(0, 6))
            for long in range(3):
                barred = function_called("how_many_barred")(chart, long)
                self.assertEqual(barred == 0, function_called("is_right")(chart, long))


if __name__ == "__main__":
    unittest.main()
