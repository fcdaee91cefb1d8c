"""Promise 3: errs, says, needed, ifplain."""

import unittest
from fractions import Fraction
from itertools import product

from lines import (
    BOTH, GREATEST, LONGEST_PAIRS, NO_SOURCES, PAIRS, answers, as_answer, asked, chance_of, far_apart, last, line,
    sources_of, told, words_of,
)

LENGTHS = range(7)
TOO_LONG = (7, 8, GREATEST)


def best_errs(plain, other, length):
    """The best test's alarms and misses, together, by 2, word by word."""
    wrong = Fraction(0)
    for word in words_of(len(plain), length):
        by_plain, by_other = chance_of(plain, word), chance_of(other, word)
        wrong += by_plain if by_other > by_plain else by_other
    return wrong / 2


def said_other(plain, other, length):
    return sum(chance_of(other, word) > chance_of(plain, word) for word in words_of(len(plain), length))


def fewest(plain, other, hundredths, longest=6):
    for length in range(longest + 1):
        if far_apart(plain, other, length) >= Fraction(hundredths, 100):
            return [length]
    return [-33]


class Errs(unittest.TestCase):
    def test_the_whole_list(self):
        calls = line(*told((1, 3), (1, 1)), ("errs", 0), ("errs", 1), ("errs", 2))
        self.assertEqual(answers(calls), [1, 0, 1, 4, 1, 2, 3, 0, 1, 2, 3, 0, 3, 8, 3, 0, 11, 32])

    def test_a_half_in_words_of_no_letters(self):
        for plain, other in PAIRS:
            self.assertEqual(last(*told(plain, other), ("errs", 0)), [0, 1, 2])

    def test_a_half_of_the_same_source_with_greater_weights(self):
        for length in LENGTHS:
            self.assertEqual(last(*told((1, 2, 3), (3, 6, 9)), ("errs", length)), [0, 1, 2])

    def test_never_where_they_are_wholly_apart(self):
        for length in range(1, 7):
            self.assertEqual(last(*told((9, 0), (0, 1)), ("errs", length)), [0, 0, 1])

    def test_a_weight_of_none_in_the_one_alone(self):
        for length in LENGTHS:
            self.assertEqual(last(*told((0, 1), (1, 1)), ("errs", length)), [0, 1, 2 ** (length + 1)])
            self.assertEqual(last(*told((1, 1), (0, 1)), ("errs", length)), [0, 1, 2 ** (length + 1)])

    def test_a_letter_that_neither_draws(self):
        for length in LENGTHS:
            self.assertEqual(
                last(*told((1, 0, 3), (1, 0, 1)), ("errs", length)), last(*told((1, 3), (1, 1)), ("errs", length)))

    def test_two_letters_alike(self):
        for length in LENGTHS:
            self.assertEqual(
                last(*told((1, 1, 3), (4, 4, 1)), ("errs", length)), last(*told((2, 3), (8, 1)), ("errs", length)))

    def test_six_letters_of_four(self):
        for plain, other in LONGEST_PAIRS:
            self.assertEqual(last(*told(plain, other), ("errs", 6)), as_answer(best_errs(plain, other, 6)))

    def test_many_pairs(self):
        for letters, weights, longest in ((2, (0, 1, 4, 9), 4), (3, (0, 2, 7), 2), (4, (0, 3), 2)):
            for plain, other in product(sources_of(letters, weights), repeat=2):
                for length in range(longest + 1):
                    found = last(*told(plain, other), ("errs", length))
                    self.assertEqual(found, as_answer(best_errs(plain, other, length)))
                    self.assertEqual(found, as_answer((1 - far_apart(plain, other, length)) / 2))

    def test_too_many_letters_are_refused(self):
        for length in TOO_LONG:
            self.assertEqual(last(*told((1, 3), (1, 1)), ("errs", length)), [-22])


class Says(unittest.TestCase):
    def test_the_whole_list(self):
        calls = line(*told((1, 3), (1, 1)), ("says", 0), ("says", 1), ("says", 2), ("says", 3))
        self.assertEqual(answers(calls), [1, 0, 1, 4, 1, 2, 1, 0, 1, 1, 1, 3, 1, 4])

    def test_never_of_the_word_of_no_letters(self):
        for plain, other in PAIRS:
            self.assertEqual(last(*told(plain, other), ("says", 0)), [0])

    def test_never_of_the_same_source_with_greater_weights(self):
        for length in LENGTHS:
            self.assertEqual(last(*told((1, 2, 3), (3, 6, 9)), ("says", length)), [0])

    def test_not_of_words_that_neither_draws(self):
        # With letter 1, that neither draws, there are more words, but no more that are likelier.
        for length in LENGTHS:
            self.assertEqual(
                last(*told((1, 0, 3), (1, 0, 1)), ("says", length)), last(*told((1, 3), (1, 1)), ("says", length)))

    def test_a_weight_of_none_in_the_one_alone(self):
        for length in LENGTHS:
            self.assertEqual(last(*told((0, 1), (1, 1)), ("says", length)), [2 ** length - 1])
            self.assertEqual(last(*told((1, 1), (0, 1)), ("says", length)), [min(length, 1)])

    def test_two_letters_alike_make_words_of_their_own(self):
        self.assertEqual(last(*told((1, 1, 3), (4, 4, 1)), ("says", 1)), [2])
        self.assertEqual(last(*told((2, 3), (8, 1)), ("says", 1)), [1])

    def test_six_letters_of_four(self):
        for plain, other in LONGEST_PAIRS:
            self.assertEqual(last(*told(plain, other), ("says", 6)), [said_other(plain, other, 6)])
        self.assertEqual(last(*told((0, 0, 0, 1), (9, 9, 9, 9)), ("says", 6)), [4095])

    def test_many_pairs(self):
        for letters, weights, longest in ((2, (0, 1, 4, 9), 4), (3, (0, 2, 7), 2), (4, (0, 3), 2)):
            for plain, other in product(sources_of(letters, weights), repeat=2):
                for length in range(longest + 1):
                    found = last(*told(plain, other), ("says", length))
                    self.assertEqual(found, [said_other(plain, other, length)])

    def test_too_many_letters_are_refused(self):
        for length in TOO_LONG:
            self.assertEqual(last(*told((1, 3), (1, 1)), ("says", length)), [-22])


class Needed(unittest.TestCase):
    def test_the_whole_list(self):
        # 1 by 4, 5 by 16 and 11 by 32 apart in one, two and three letters.
        asks = [("needed", x) for x in (0, 1, 25, 26, 31, 32, 34, 35, 100, 101)]
        calls = line(*told((1, 3), (1, 1)), *asks)
        self.assertEqual(
            answers(calls), [1, 0, 1, 4, 1, 2, 1, 0, 1, 1, 1, 1, 1, 2, 1, 2, 1, 3, 1, 3, 1, 4, 1, -33, 1, -22])

    def test_none_at_all_are_needed_for_nothing(self):
        for plain, other in PAIRS:
            self.assertEqual(last(*told(plain, other), ("needed", 0)), [0])

    def test_wholly_apart(self):
        for x in (1, 50, 99, 100):
            self.assertEqual(last(*told((9, 0), (0, 1)), ("needed", x)), [1])
        self.assertEqual(last(*told((1, 1, 0, 0), (0, 0, 3, 5)), ("needed", 100)), [1])

    def test_never_wholly_apart(self):
        # In six letters they're 63 of 64 apart.
        self.assertEqual(last(*told((0, 1), (1, 1)), ("needed", 98)), [6])
        self.assertEqual(last(*told((0, 1), (1, 1)), ("needed", 99)), [-33])
        self.assertEqual(last(*told((0, 1), (1, 1)), ("needed", 100)), [-33])

    def test_just_so_far_is_enough(self):
        self.assertEqual(last(*told((0, 1), (1, 1)), ("needed", 50)), [1])
        self.assertEqual(last(*told((0, 1), (1, 1)), ("needed", 51)), [2])
        self.assertEqual(last(*told((0, 1), (1, 1)), ("needed", 75)), [2])
        self.assertEqual(last(*told((0, 1), (1, 1)), ("needed", 76)), [3])

    def test_the_same_source_is_never_apart(self):
        for x in (1, 2, 100):
            self.assertEqual(last(*told((1, 2, 3), (3, 6, 9)), ("needed", x)), [-33])

    def test_a_letter_that_neither_draws_and_letters_alike(self):
        for x in range(101):
            self.assertEqual(last(*told((1, 0, 3), (1, 0, 1)), ("needed", x)), last(*told((1, 3), (1, 1)), ("needed", x)))
            self.assertEqual(last(*told((1, 1, 3), (4, 4, 1)), ("needed", x)), last(*told((2, 3), (8, 1)), ("needed", x)))

    def test_every_hundredth_and_each_many_letters(self):
        seen = set()
        for plain, other in (((1, 3), (1, 1)), ((0, 1), (1, 1)), ((4, 5), (5, 4)), ((1, 2, 3), (2, 2, 2))):
            for x in range(101):
                found = last(*told(plain, other), ("needed", x))
                self.assertEqual(found, fewest(plain, other, x))
                seen.add(found[0])
        self.assertEqual(seen, {0, 1, 2, 3, 4, 5, 6, -33})

    def test_six_letters_of_four(self):
        for plain, other in LONGEST_PAIRS:
            for x in (0, 1, 3, 90, 100):
                self.assertEqual(last(*told(plain, other), ("needed", x)), fewest(plain, other, x))

    def test_more_than_a_hundred_are_refused(self):
        for x in (101, 102, 1000, GREATEST):
            self.assertEqual(last(*told((9, 0), (0, 1)), ("needed", x)), [-22])
            # Not enough for 100 either: what stands first is answered.
            self.assertEqual(last(("begin", 2), ("needed", x)), [-22])


class IfPlain(unittest.TestCase):
    def test_the_whole_list(self):
        calls = line(*told((1, 3), (1, 1)), ("ifplain", 1, 1, 0), ("ifplain", 2, 3, 1), ("ifplain", 6, 9, 9))
        self.assertEqual(answers(calls), [1, 0, 1, 4, 1, 2, 3, 0, 1, 2, 3, 0, 5, 16, 3, 0, 0, 1])

    def test_by_nothing_in_words_of_no_letters(self):
        for plain, other in PAIRS:
            self.assertEqual(last(("begin", len(plain)), ("other", *other), ("ifplain", 0, *plain)), [0, 0, 1])

    def test_as_apart_behind_plain(self):
        for plain, other in PAIRS:
            for length in LENGTHS:
                found = asked(
                    ("begin", len(plain)), ("other", *other), ("ifplain", length, *plain), ("plain", *plain),
                    ("apart", length))
                self.assertEqual(found[2], found[4])

    def test_it_asks_of_the_other_source_alone(self):
        found = asked(*told((1, 3), (1, 1)), ("ifplain", 1, 1, 0), ("plain", 7, 2), ("ifplain", 1, 1, 0))
        self.assertEqual(found[3], [0, 1, 2])
        self.assertEqual(found[5], [0, 1, 2])
        self.assertEqual(last(*told((1, 3), (1, 1)), ("swap",), ("ifplain", 1, 1, 0)), [0, 3, 4])

    def test_six_letters_of_four(self):
        for plain, other in LONGEST_PAIRS:
            found = last(("begin", 4), ("other", *other), ("ifplain", 6, *plain))
            self.assertEqual(found, as_answer(far_apart(plain, other, 6)))

    def test_many_rows(self):
        for letters, weights, longest in ((2, (0, 1, 4, 9), 3), (3, (0, 2, 7), 2), (4, (0, 3), 1)):
            for row, other in product(sources_of(letters, weights), repeat=2):
                for length in range(longest + 1):
                    found = last(("begin", letters), ("other", *other), ("ifplain", length, *row))
                    self.assertEqual(found, as_answer(far_apart(row, other, length)))

    def test_it_changes_nothing(self):
        for plain, other in PAIRS:
            for row in (plain[::-1], other, (9,) * len(plain)):
                found = asked(
                    *told(plain, other), ("apart", 2), ("ifplain", 2, *row), *BOTH, ("apart", 2), ("count",))
                self.assertEqual(found[5:7], [[len(plain), *plain], [len(other), *other]])
                self.assertEqual(found[7:], [found[3], [len(plain)]])

    def test_what_is_no_source_is_refused(self):
        for letters, rows in NO_SOURCES.items():
            for row in rows:
                for length in (0, 1, 6, 7, GREATEST):
                    self.assertEqual(last(("begin", letters), ("ifplain", length, *row)), [-22], row)

    def test_too_many_letters_are_refused(self):
        for length in TOO_LONG:
            self.assertEqual(last(*told((1, 3), (1, 1)), ("ifplain", length, 1, 3)), [-22])


if __name__ == "__main__":
    unittest.main()
