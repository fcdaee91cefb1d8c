"""What holds, whatever the sources: the document's words behind its points."""

import unittest
from fractions import Fraction
from itertools import product

from lines import LONGEST_PAIRS, PAIRS, as_fraction, asked, last, sources_of, told

LENGTHS = range(7)
SOME_PAIRS = PAIRS + LONGEST_PAIRS + tuple(product(sources_of(2, (0, 1, 5)), repeat=2))


def fractions_of(pair, calls):
    """What each of the calls answers of this pair, asked in lists of at most 60 calls."""
    found = []
    for start in range(0, len(calls), 50):
        found += [as_fraction(answer) for answer in asked(*told(*pair), *calls[start:start + 50])[3:]]
    return found


def aparts(pair):
    return fractions_of(pair, [("apart", length) for length in LENGTHS])


def told_tests(pair, length):
    return list(product(range(len(pair[0])), range(length + 2)))


class WhatHolds(unittest.TestCase):
    def test_no_told_test_errs_less_than_they_are_alike(self):
        for pair in SOME_PAIRS:
            apart = aparts(pair)
            for length in LENGTHS:
                tests = told_tests(pair, length)
                alarms = fractions_of(pair, [("alarms", letter, least, length) for letter, least in tests])
                misses = fractions_of(pair, [("misses", letter, least, length) for letter, least in tests])
                for alarm, miss in zip(alarms, misses):
                    self.assertGreaterEqual(alarm + miss, 1 - apart[length])

    def test_nor_does_a_test_by_the_ratio(self):
        bounds = ((0, 1), (1, 2), (1, 1), (3, 2), (5, 1), (1000, 1))
        for pair in SOME_PAIRS:
            apart = aparts(pair)
            for length in LENGTHS:
                alarms = fractions_of(pair, [("above", 0, length, x, y) for x, y in bounds])
                hits = fractions_of(pair, [("above", 1, length, x, y) for x, y in bounds])
                for bound, alarm, hit in zip(bounds, alarms, hits):
                    self.assertGreaterEqual(alarm + 1 - hit, 1 - apart[length])
                    if bound == (1, 1):
                        self.assertEqual(alarm + 1 - hit, 1 - apart[length])

    def test_one_more_letter_never_makes_them_less_apart(self):
        for pair in SOME_PAIRS:
            apart = aparts(pair)
            errs = fractions_of(pair, [("errs", length) for length in LENGTHS])
            for length in range(1, 7):
                self.assertGreaterEqual(apart[length], apart[length - 1])
                self.assertLessEqual(errs[length], errs[length - 1])

    def test_never_more_than_so_many_times_as_far_as_in_one(self):
        for pair in SOME_PAIRS:
            apart = aparts(pair)
            for length in LENGTHS:
                self.assertLessEqual(apart[length], length * apart[1])
                self.assertLessEqual(apart[length], 1)

    def test_by_nothing_just_if_they_are_the_same(self):
        for pair in SOME_PAIRS:
            same = last(*told(*pair), ("samesource",))
            for far in aparts(pair)[1:]:
                self.assertEqual(same, [int(far == 0)])

    def test_so_many_times_as_likely_at_most_once_in_so_many(self):
        bounds = ((1, 1), (2, 1), (3, 1), (10, 1), (1000, 1), (3, 2), (9, 7), (1000, 999))
        for pair in SOME_PAIRS:
            for length in LENGTHS:
                likely = fractions_of(pair, [("above", 0, length, x, y) for x, y in bounds])
                for (x, y), found in zip(bounds, likely):
                    self.assertLessEqual(found, Fraction(y, x))

    def test_no_told_test_does_better_than_the_best_one(self):
        for pair in SOME_PAIRS:
            for length in LENGTHS:
                errs, told_best = asked(*told(*pair), ("errs", length), ("besttold", length))[3:]
                self.assertGreaterEqual(Fraction(*told_best[2:]), as_fraction(errs))

    def test_what_they_are_apart_by_is_what_needed_goes_by(self):
        for pair in SOME_PAIRS:
            apart = aparts(pair)
            for x in (0, 1, 33, 50, 99, 100):
                enough = [length for length in LENGTHS if apart[length] >= Fraction(x, 100)]
                self.assertEqual(last(*told(*pair), ("needed", x)), enough[:1] or [-33])


if __name__ == "__main__":
    unittest.main()
