"""Counters, point [12]."""

import unittest
from math import prod

from tests import judging
from tests.helping import HUGE, LETTERS, Checks, function_called

SIZES = ((2,), (10,), (2, 2), (2, 3), (3, 2), (4, 5), (2, 2, 2), (3, 2, 4), (2, 3, 2, 3), (5, 2, 2, 3), (2,) * 6)
# The most that the document lets be handed in.
FULL = (10,) * 20
MIXED = (2, 10, 3, 7, 4, 9, 5, 8, 6, 2, 10, 10, 3, 3, 5, 7, 2, 4, 9, 10)


def numbers_to_try(sizes):
    many = prod(sizes)
    steps = {0, 1, 2, sizes[-1] - 1, sizes[-1], many // 2, many // 3, many - 2, many - 1, *range(7, many, many // 13 + 1)}
    return sorted(number for number in steps if 0 <= number < many)


class TestExamples(Checks):
    def test_reflected(self):
        words = [(0, 0), (0, 1), (0, 2), (1, 2), (1, 1), (1, 0)]
        for number, word in enumerate(words):
            self.gives(word, "reflected_word", (2, 3), number)
        self.gives(5, "reflected_number", (2, 3), (1, 0))
        self.gives((0, 1), "reflected_step", (2, 3), 2)
        self.gives((1, -1), "reflected_step", (2, 3), 3)
        self.gives((1, 9, *(0,) * 17, 5), "reflected_word", FULL, 10 ** 19 + 5)
        self.gives(90909090909090909090, "reflected_number", FULL, (9,) * 20)
        self.fails("NoNumber", {"number": 6}, "reflected_word", (2, 3), 6)

    def test_shifted(self):
        words = [(0, 0, 0), (1, 0, 0), (1, 1, 0), (1, 1, 1), (0, 1, 1), (0, 0, 1)]
        for number, word in enumerate(words):
            self.gives(word, "shifted_word", 3, number)
        self.gives(4, "shifted_number", 3, (0, 1, 1))
        self.gives(None, "shifted_number", 3, (0, 1, 0))
        self.gives(1, "shifted_longest", 3)
        self.gives(5, "shifted_longest", 8)

    def test_charts(self):
        made = ((2, 2), (("a", (0, 0)), ("b", (0, 1)), ("c", (1, 1))), (("a", "b"), ("b", "c")))
        self.gives(made, "reflected_chart", (2, 2), ("a", "b", "c"))
        states = (("a", (0, 0)), ("b", (1, 0)), ("c", (1, 1)), ("d", (0, 1)))
        made = ((2, 2), states, (("a", "b"), ("a", "d"), ("b", "c"), ("c", "d")))
        self.gives(made, "shifted_chart", 2, ("a", "b", "c", "d"))


class TestReflectedWord(Checks):
    def test_all_numbers(self):
        for sizes in SIZES:
            for number in range(prod(sizes)):
                self.gives(judging.reflected(sizes, number), "reflected_word", sizes, number)

    def test_many_fields(self):
        for sizes in (FULL, MIXED, (2,) * 20, (9,) * 19):
            for number in numbers_to_try(sizes):
                self.gives(judging.reflected(sizes, number), "reflected_word", sizes, number)

    def test_numbers_without_a_word(self):
        for sizes in (*SIZES, FULL, MIXED):
            for number in (-1, -2, -HUGE, prod(sizes), prod(sizes) + 1, HUGE):
                self.fails("NoNumber", {"number": number}, "reflected_word", sizes, number)

    def test_one_field_counts_up(self):
        for number in range(10):
            self.gives((number,), "reflected_word", (10,), number)

    def test_the_error_has_its_builtin_base_class(self):
        for name in ("reflected_word", "reflected_step"):
            with self.assertRaises(LookupError):
                function_called(name)((2, 3), 6)
        with self.assertRaises(LookupError):
            function_called("shifted_word")(2, 4)


class TestReflectedNumber(Checks):
    def test_all_words(self):
        for sizes in SIZES:
            for number in range(prod(sizes)):
                self.gives(number, "reflected_number", sizes, judging.reflected(sizes, number))

    def test_many_fields(self):
        for sizes in (FULL, MIXED, (2,) * 20):
            for number in numbers_to_try(sizes):
                self.gives(number, "reflected_number", sizes, judging.reflected(sizes, number))
            self.gives(0, "reflected_number", sizes, (0,) * 20)
            last = judging.reflected(sizes, prod(sizes) - 1)
            self.gives(prod(sizes) - 1, "reflected_number", sizes, last)


class TestReflectedStep(Checks):
    def check(self, sizes, number):
        here, there = judging.reflected(sizes, number), judging.reflected(sizes, number + 1)
        unlike = [field for field in range(len(sizes)) if here[field] != there[field]]
        self.assertEqual(len(unlike), 1)
        change = there[unlike[0]] - here[unlike[0]]
        self.assertIn(change, (1, -1))
        self.gives((unlike[0], change), "reflected_step", sizes, number)

    def test_all_numbers(self):
        for sizes in SIZES:
            for number in range(prod(sizes) - 1):
                self.check(sizes, number)

    def test_many_fields(self):
        for sizes in (FULL, MIXED, (2,) * 20):
            for number in numbers_to_try(sizes):
                if number < prod(sizes) - 1:
                    self.check(sizes, number)
        self.gives((0, 1), "reflected_step", FULL, 10 ** 19 - 1)

    def test_no_step(self):
        for sizes in (*SIZES, FULL):
            many = prod(sizes)
            for number in (-1, -2, -HUGE, many - 1, many, many + 1, HUGE):
                self.fails("NoNumber", {"number": number}, "reflected_step", sizes, number)

    def test_the_fields_of_one_step_and_of_several(self):
        self.gives((0, 1), "reflected_step", (2,), 0)
        for number in range(9):
            self.gives((0, 1), "reflected_step", (10,), number)
            self.gives((1, 1), "reflected_step", (2, 10), number)
            self.gives((1, -1), "reflected_step", (2, 10), 10 + number)
        self.gives((0, 1), "reflected_step", (2, 10), 9)


class TestShifted(Checks):
    def test_all_words(self):
        for bits in (2, 3, 4, 7, 40):
            words = judging.shifted(bits)
            self.assertEqual(len(set(words)), 2 * bits)
            for number, word in enumerate(words):
                self.gives(word, "shifted_word", bits, number)
                self.gives(number, "shifted_number", bits, word)

    def test_numbers_without_a_word(self):
        for bits in (2, 3, 5, 40):
            for number in (-1, -bits, -HUGE, 2 * bits, 2 * bits + 1, 3 * bits, HUGE):
                self.fails("NoNumber", {"number": number}, "shifted_word", bits, number)

    def test_words_of_no_number(self):
        for bits in (2, 3, 4, 6):
            known = judging.shifted(bits)
            for word in judging.all_words(((2,) * bits, (), ())):
                right = known.index(word) if word in known else None
                self.gives(right, "shifted_number", bits, word)

    def test_forty_bits(self):
        self.gives((1,) * 40, "shifted_word", 40, 40)
        self.gives((0,) * 39 + (1,), "shifted_word", 40, 79)
        self.gives(79, "shifted_number", 40, (0,) * 39 + (1,))
        self.gives(None, "shifted_number", 40, (0,) * 38 + (1, 0))
        self.gives(None, "shifted_number", 40, (1, 0) * 20)

    def test_longest(self):
        for bits in range(2, 41):
            right = max(long for long in range(bits) if 2 * bits > 3 * long)
            self.gives(right, "shifted_longest", bits)
        self.gives(1, "shifted_longest", 2)
        self.gives(26, "shifted_longest", 40)


class TestReflectedChart(Checks):
    def test_all_numbers_of_names(self):
        for sizes in (*SIZES, FULL, MIXED):
            for many in range(1, min(10, prod(sizes)) + 1):
                wanted = tuple(LETTERS[:many])
                states = tuple((name, judging.reflected(sizes, at)) for at, name in enumerate(wanted))
                self.gives((sizes, states, tuple(zip(wanted, wanted[1:]))), "reflected_chart", sizes, wanted)

    def test_names_of_all_lengths(self):
        wanted = ("a", "aa", "abcdefgh", "b", "z")
        states = tuple((name, (at,)) for at, name in enumerate(wanted))
        self.gives(((5,), states, tuple(zip(wanted, wanted[1:]))), "reflected_chart", (5,), wanted)
        self.gives(((5,), (("z", (0,)),), ()), "reflected_chart", (5,), ("z",))

    def test_they_are_charts(self):
        for sizes in (*SIZES, FULL):
            made = function_called("reflected_chart")(sizes, tuple(LETTERS[:min(10, prod(sizes))]))
            self.gives(True, "is_chart", made)


class TestShiftedChart(Checks):
    def test_all_numbers_of_bits(self):
        for bits in range(2, 6):
            wanted = tuple(LETTERS[:2 * bits])
            states = tuple(zip(wanted, judging.shifted(bits)))
            moves = tuple(sorted([*zip(wanted, wanted[1:]), (wanted[0], wanted[-1])]))
            self.gives(((2,) * bits, states, moves), "shifted_chart", bits, wanted)
            self.gives(True, "is_chart", function_called("shifted_chart")(bits, wanted))

    def test_names_of_all_lengths(self):
        wanted = ("a", "aa", "b", "bcdefghi")
        states = tuple(zip(wanted, judging.shifted(2)))
        moves = (("a", "aa"), ("a", "bcdefghi"), ("aa", "b"), ("b", "bcdefghi"))
        self.gives(((2, 2), states, moves), "shifted_chart", 2, wanted)


class TestGuarantees(Checks):
    def test_each_word_is_that_of_one_number(self):
        for sizes in SIZES:
            words = [function_called("reflected_word")(sizes, number) for number in range(prod(sizes))]
            self.assertEqual(sorted(words), judging.all_words((sizes, (), ())))

    def test_shifted_rings_are_right_as_long_as_told(self):
        for bits in range(2, 6):
            made = function_called("shifted_chart")(bits, tuple(LETTERS[:2 * bits]))
            longest = function_called("shifted_longest")(bits)
            for long in range(bits + 1):
                self.assertEqual(judging.is_right(made, long), 2 * bits > 3 * long)
                self.assertEqual(judging.is_right(made, long), long <= longest)
                if long < 3:
                    self.gives(long <= longest, "is_right", made, long)

    def test_whole_reflected_codes_are_right_over_1_alone(self):
        for sizes in ((2, 2), (2, 3), (3, 2), (2, 4), (5, 2), (4, 2), (3, 3), (2, 2, 2)):
            made = function_called("reflected_chart")(sizes, tuple(LETTERS[:prod(sizes)]))
            self.assertEqual([judging.is_right(made, long) for long in range(3)], [True, True, False])
            if prod(sizes) <= 8:
                self.gives(1, "longest_look", made)


if __name__ == "__main__":
    unittest.main()
