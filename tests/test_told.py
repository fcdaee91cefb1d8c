"""Promise 4: alarms, misses, besttold, above."""

import unittest
from fractions import Fraction
from itertools import product

from lines import (
    GREATEST, LONGEST_PAIRS, PAIRS, answers, as_answer, asked, chance_of, last, line, sources_of, told, two, words_of,
)

LENGTHS = range(7)
TOO_LONG = (7, 8, GREATEST)


def alarms_of(plain, letter, least, length):
    words = words_of(len(plain), length)
    return sum((chance_of(plain, word) for word in words if word.count(letter) >= least), Fraction(0))


def misses_of(other, letter, least, length):
    words = words_of(len(other), length)
    return sum((chance_of(other, word) for word in words if word.count(letter) < least), Fraction(0))


def best_of_told(plain, other, length):
    found = []
    for letter in range(len(plain)):
        for least in range(length + 2):
            errs = (alarms_of(plain, letter, least, length) + misses_of(other, letter, least, length)) / 2
            found.append((errs, letter, least))
    errs, letter, least = min(found)
    return [letter, least, *two(errs)]


def likely_above(pair, source, length, x, y):
    likely = Fraction(0)
    for word in words_of(len(pair[0]), length):
        if chance_of(pair[1], word) >= Fraction(x, y) * chance_of(pair[0], word):
            likely += chance_of(pair[source], word)
    return likely


class AlarmsAndMisses(unittest.TestCase):
    def test_the_whole_list(self):
        calls = line(
            *told((1, 3), (1, 1)), ("alarms", 0, 1, 2), ("misses", 0, 1, 2), ("alarms", 1, 2, 3), ("misses", 1, 2, 3))
        self.assertEqual(
            answers(calls), [1, 0, 1, 4, 1, 2, 3, 0, 7, 16, 3, 0, 1, 4, 3, 0, 27, 32, 3, 0, 1, 2])

    def test_none_or_more_are_in_every_word(self):
        for plain, other in PAIRS:
            for letter in range(len(plain)):
                for length in LENGTHS:
                    found = asked(*told(plain, other), ("alarms", letter, 0, length), ("misses", letter, 0, length))
                    self.assertEqual(found[3:], [[0, 1, 1], [0, 0, 1]])

    def test_more_than_there_are_letters_are_in_no_word(self):
        for plain, other in PAIRS:
            for letter in range(len(plain)):
                for length in LENGTHS:
                    for least in (length + 1, length + 2, 8, GREATEST):
                        found = asked(
                            *told(plain, other), ("alarms", letter, least, length), ("misses", letter, least, length))
                        self.assertEqual(found[3:], [[0, 0, 1], [0, 1, 1]])

    def test_words_of_no_letters(self):
        found = asked(
            *told((1, 3), (1, 1)), ("alarms", 0, 0, 0), ("misses", 0, 0, 0), ("alarms", 0, 1, 0), ("misses", 0, 1, 0))
        self.assertEqual(found[3:], [[0, 1, 1], [0, 0, 1], [0, 0, 1], [0, 1, 1]])

    def test_a_letter_that_is_not_drawn(self):
        # Letter 0 is never drawn by the harmless source, letter 1 never by either.
        before = told((0, 0, 5), (2, 0, 2))
        self.assertEqual(last(*before, ("alarms", 0, 1, 3)), [0, 0, 1])
        self.assertEqual(last(*before, ("misses", 0, 1, 3)), [0, 1, 8])
        self.assertEqual(last(*before, ("alarms", 1, 1, 3)), [0, 0, 1])
        self.assertEqual(last(*before, ("misses", 1, 1, 3)), [0, 1, 1])
        self.assertEqual(last(*before, ("alarms", 2, 3, 3)), [0, 1, 1])
        self.assertEqual(last(*before, ("misses", 2, 3, 3)), [0, 7, 8])

    def test_letters_alike(self):
        for least in range(5):
            found = asked(*told((4, 4, 1), (1, 1, 7)), *[
                (name, letter, least, 3) for name in ("alarms", "misses") for letter in (0, 1)])
            self.assertEqual(found[3], found[4])
            self.assertEqual(found[5], found[6])

    def test_each_is_of_one_source_alone(self):
        found = asked(
            *told((1, 3), (1, 1)), ("alarms", 0, 1, 2), ("other", 9, 2), ("alarms", 0, 1, 2),
            ("misses", 0, 1, 2), ("plain", 7, 8), ("misses", 0, 1, 2))
        self.assertEqual(found[3], found[5])
        self.assertEqual(found[6], found[8])

    def test_six_letters_of_four(self):
        for plain, other in LONGEST_PAIRS:
            for letter, least in ((0, 1), (1, 3), (3, 6)):
                found = asked(*told(plain, other), ("alarms", letter, least, 6), ("misses", letter, least, 6))
                self.assertEqual(found[3], as_answer(alarms_of(plain, letter, least, 6)))
                self.assertEqual(found[4], as_answer(misses_of(other, letter, least, 6)))

    def test_many_tests(self):
        for plain, other in PAIRS:
            for length in range(4):
                for letter, least in product(range(len(plain)), range(length + 3)):
                    found = asked(
                        *told(plain, other), ("alarms", letter, least, length), ("misses", letter, least, length))
                    self.assertEqual(found[3], as_answer(alarms_of(plain, letter, least, length)))
                    self.assertEqual(found[4], as_answer(misses_of(other, letter, least, length)))

    def test_refusals_and_their_order(self):
        for name in ("alarms", "misses"):
            for letters in (2, 3, 4):
                before = [("begin", letters)]
                self.assertEqual(last(*before, (name, letters - 1, 0, 6)), [0, 1, 1] if name == "alarms" else [0, 0, 1])
                for letter in (letters, letters + 1, GREATEST):
                    for least in (0, 1, GREATEST):
                        self.assertEqual(last(*before, (name, letter, least, 6)), [-2])
                        self.assertEqual(last(*before, (name, letter, least, 7)), [-2])
                        self.assertEqual(last(*before, (name, letter, least, GREATEST)), [-2])
                for length in TOO_LONG:
                    for least in (0, 1, GREATEST):
                        self.assertEqual(last(*before, (name, letters - 1, least, length)), [-22])


class BestTold(unittest.TestCase):
    def test_the_whole_list(self):
        calls = line(*told((1, 3), (1, 1)), ("besttold", 0), ("besttold", 1), ("besttold", 2), ("besttold", 7))
        self.assertEqual(
            answers(calls), [1, 0, 1, 4, 1, 2, 4, 0, 0, 1, 2, 4, 0, 1, 3, 8, 4, 0, 1, 11, 32, 1, -22])

    def test_a_later_letter(self):
        self.assertEqual(last(*told((3, 1), (1, 1)), ("besttold", 2)), [1, 1, 11, 32])
        self.assertEqual(last(*told((1, 1, 1, 0), (1, 1, 1, 9)), ("besttold", 1)), [3, 1, 1, 8])

    def test_the_first_one_in_words_of_no_letters(self):
        for plain, other in PAIRS:
            self.assertEqual(last(*told(plain, other), ("besttold", 0)), [0, 0, 1, 2])

    def test_the_first_one_of_the_same_source(self):
        for length in LENGTHS:
            self.assertEqual(last(*told((1, 2, 3), (3, 6, 9)), ("besttold", length)), [0, 0, 1, 2])
            self.assertEqual(last(("begin", 4), ("besttold", length)), [0, 0, 1, 2])

    def test_of_letters_alike_the_first(self):
        self.assertEqual(last(*told((1, 1, 7), (4, 4, 1)), ("besttold", 1))[:2], [0, 1])
        self.assertEqual(last(*told((7, 1, 1), (1, 4, 4)), ("besttold", 1))[:2], [1, 1])

    def test_of_like_numbers_the_first(self):
        # One letter 0 of two is 4 of 9 by either: with 1 and with 2 it errs alike.
        self.assertEqual(last(*told((1, 2), (2, 1)), ("besttold", 2)), [0, 1, 1, 3])

    def test_the_earlier_letter_goes_before_the_smaller_number(self):
        # Of letter 0 and 2 it errs as often as of letter 1 and 1.
        self.assertEqual(last(*told((2, 1, 2), (3, 2, 0)), ("besttold", 3)), [0, 2, 44, 125])

    def test_wholly_apart(self):
        self.assertEqual(last(*told((9, 0), (0, 1)), ("besttold", 3)), [1, 1, 0, 1])
        self.assertEqual(last(*told((0, 1), (9, 0)), ("besttold", 3)), [0, 1, 0, 1])

    def test_every_letter_of_the_word(self):
        # Only a word of letter 0 alone can be of the other source.
        for length in range(1, 7):
            found = last(*told((9, 1), (1, 0)), ("besttold", length))
            self.assertEqual(found, [0, length, *two(Fraction(9 ** length, 2 * 10 ** length))])

    def test_a_letter_that_neither_draws(self):
        for length in LENGTHS:
            found = last(*told((0, 1, 3), (0, 1, 1)), ("besttold", length))
            expected = last(*told((1, 3), (1, 1)), ("besttold", length))
            self.assertEqual(found, [expected[0] + min(length, 1), *expected[1:]])

    def test_six_letters_of_four(self):
        for plain, other in LONGEST_PAIRS:
            self.assertEqual(last(*told(plain, other), ("besttold", 6)), best_of_told(plain, other, 6))

    def test_many_pairs(self):
        for letters, weights, longest in ((2, (0, 1, 4, 9), 4), (3, (0, 2, 7), 2), (4, (0, 3), 1)):
            for plain, other in product(sources_of(letters, weights), repeat=2):
                for length in range(longest + 1):
                    found = last(*told(plain, other), ("besttold", length))
                    self.assertEqual(found, best_of_told(plain, other, length))

    def test_too_many_letters_are_refused(self):
        for length in TOO_LONG:
            self.assertEqual(last(*told((1, 3), (1, 1)), ("besttold", length)), [-22])


class Above(unittest.TestCase):
    def test_the_whole_list(self):
        calls = line(
            *told((1, 3), (1, 1)), ("above", 0, 1, 2, 1), ("above", 1, 1, 2, 1), ("above", 0, 2, 4, 3),
            ("above", 1, 2, 4, 3))
        self.assertEqual(
            answers(calls), [1, 0, 1, 4, 1, 2, 3, 0, 1, 4, 3, 0, 1, 2, 3, 0, 7, 16, 3, 0, 3, 4])

    def test_just_so_much_is_enough_and_less_is_not(self):
        # The ratios of letters 0 and 1 are 2 and 2 by 3.
        for x, y, expected in (
                (2, 1, [0, 1, 4]), (1000, 500, [0, 1, 4]), (1000, 499, [0, 0, 1]), (201, 100, [0, 0, 1]),
                (2, 3, [0, 1, 1]), (667, 1000, [0, 1, 4]), (666, 1000, [0, 1, 1])):
            self.assertEqual(last(*told((1, 3), (1, 1)), ("above", 0, 1, x, y)), expected)

    def test_every_word_is_none_times_as_likely(self):
        for plain, other in PAIRS:
            for length in LENGTHS:
                for source, y in product((0, 1), (1, 1000)):
                    self.assertEqual(last(*told(plain, other), ("above", source, length, 0, y)), [0, 1, 1])

    def test_words_of_no_letters_are_as_likely_by_both(self):
        for source in (0, 1):
            before = told((1, 0), (0, 1))
            self.assertEqual(last(*before, ("above", source, 0, 1, 1)), [0, 1, 1])
            self.assertEqual(last(*before, ("above", source, 0, 999, 1000)), [0, 1, 1])
            self.assertEqual(last(*before, ("above", source, 0, 1000, 999)), [0, 0, 1])

    def test_not_drawn_by_the_harmless_source(self):
        before = told((0, 1), (1, 1))
        self.assertEqual(last(*before, ("above", 0, 2, 1000, 1)), [0, 0, 1])
        self.assertEqual(last(*before, ("above", 1, 2, 1000, 1)), [0, 3, 4])

    def test_not_drawn_by_the_other_source(self):
        before = told((1, 1), (0, 1))
        self.assertEqual(last(*before, ("above", 0, 2, 1, 1000)), [0, 1, 4])
        self.assertEqual(last(*before, ("above", 1, 2, 1, 1000)), [0, 1, 1])

    def test_words_that_neither_draws_are_never_seen(self):
        for source, length, x in product((0, 1), range(4), (0, 1, 2, 1000)):
            found = last(*told((1, 0, 3), (1, 0, 1)), ("above", source, length, x, 1))
            self.assertEqual(found, last(*told((1, 3), (1, 1)), ("above", source, length, x, 1)))
        # Letter 0 is drawn by the harmless source alone, letter 1 by the other one: no word has both.
        self.assertEqual(last(*told((1, 0), (0, 1)), ("above", 0, 2, 1, 1)), [0, 0, 1])
        self.assertEqual(last(*told((1, 0), (0, 1)), ("above", 1, 2, 1, 1)), [0, 1, 1])

    def test_the_same_source_with_greater_weights(self):
        for source, length in product((0, 1), LENGTHS):
            self.assertEqual(last(*told((1, 2, 3), (3, 6, 9)), ("above", source, length, 1, 1)), [0, 1, 1])
            self.assertEqual(last(*told((1, 2, 3), (3, 6, 9)), ("above", source, length, 1000, 999)), [0, 0, 1])

    def test_two_letters_alike(self):
        for source, length, x in product((0, 1), range(4), (1, 2, 3, 8)):
            self.assertEqual(
                last(*told((1, 1, 3), (4, 4, 1)), ("above", source, length, x, 3)),
                last(*told((2, 3), (8, 1)), ("above", source, length, x, 3)))

    def test_six_letters_of_four(self):
        for pair in LONGEST_PAIRS:
            for source, x, y in ((0, 1, 1), (1, 1000, 1), (0, 1, 1000), (1, 7, 6)):
                found = last(*told(*pair), ("above", source, 6, x, y))
                self.assertEqual(found, as_answer(likely_above(pair, source, 6, x, y)))

    def test_many_bounds(self):
        bounds = ((0, 1), (1, 1), (1, 2), (2, 1), (3, 2), (2, 3), (9, 4), (5, 1), (1, 1000), (1000, 1), (1000, 1000))
        for pair in PAIRS:
            for source, length, (x, y) in product((0, 1), range(4), bounds):
                found = last(*told(*pair), ("above", source, length, x, y))
                self.assertEqual(found, as_answer(likely_above(pair, source, length, x, y)))

    def test_refusals(self):
        right = (0, 1, 1, 1)
        wrong = (
            (0, (2, 3, GREATEST)), (1, TOO_LONG), (2, (1001, 1002, GREATEST)), (3, (0, 1001, 1002, GREATEST)))
        for place, numbers in wrong:
            for number in numbers:
                given = [*right[:place], number, *right[place + 1:]]
                self.assertEqual(last(*told((1, 3), (1, 1)), ("above", *given)), [-22], given)
        self.assertEqual(last(("begin", 2), ("above", 2, 7, 1001, 0)), [-22])
        self.assertEqual(last(("begin", 2), ("above", 0, 1, 0, 0)), [-22])

    def test_the_edges_of_what_is_not_refused(self):
        before = told((1, 3), (1, 1))
        for source, length, x, y in product((0, 1), (0, 6), (0, 1000), (1, 1000)):
            self.assertEqual(last(*before, ("above", source, length, x, y))[0], 0)


if __name__ == "__main__":
    unittest.main()
