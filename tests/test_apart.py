"""Promise 3: apart."""

import unittest
from itertools import product

from lines import (
    GREATEST, LONGEST_PAIRS, answers, as_answer, as_fraction, asked, chance_of, far_apart, last, line, sources_of, told,
)

LENGTHS = range(7)


def all_lengths(plain, other):
    found = asked(*told(plain, other), *[("apart", length) for length in LENGTHS])[3:]
    return [as_fraction(answer) for answer in found]


class Apart(unittest.TestCase):
    def test_the_whole_list(self):
        calls = line(*told((1, 3), (1, 1)), ("apart", 0), ("apart", 1), ("apart", 2))
        self.assertEqual(answers(calls), [1, 0, 1, 4, 1, 2, 3, 0, 0, 1, 3, 0, 1, 4, 3, 0, 5, 16])

    def test_by_nothing_in_words_of_no_letters(self):
        self.assertEqual(last(*told((1, 0), (0, 1)), ("apart", 0)), [0, 0, 1])

    def test_wholly_apart(self):
        for length in range(1, 7):
            self.assertEqual(last(*told((9, 0), (0, 1)), ("apart", length)), [0, 1, 1])

    def test_a_weight_of_none_in_the_one_alone(self):
        for length in LENGTHS:
            found = last(*told((0, 1), (1, 1)), ("apart", length))
            self.assertEqual(found, [0, 2 ** length - 1, 2 ** length])

    def test_the_same_source_with_greater_weights(self):
        for length in LENGTHS:
            self.assertEqual(last(*told((1, 2, 3), (3, 6, 9)), ("apart", length)), [0, 0, 1])

    def test_a_letter_that_neither_draws(self):
        for length in LENGTHS:
            self.assertEqual(
                last(*told((1, 0, 3), (1, 0, 1)), ("apart", length)), last(*told((1, 3), (1, 1)), ("apart", length)))

    def test_two_letters_alike(self):
        for length in LENGTHS:
            self.assertEqual(
                last(*told((1, 1, 3), (4, 4, 1)), ("apart", length)), last(*told((2, 3), (8, 1)), ("apart", length)))

    def test_six_letters_of_four(self):
        for plain, other in LONGEST_PAIRS:
            self.assertEqual(last(*told(plain, other), ("apart", 6)), as_answer(far_apart(plain, other, 6)))

    def test_many_pairs(self):
        for letters, weights, longest in ((2, (0, 1, 4, 9), 4), (3, (0, 2, 7), 2), (4, (0, 3), 2)):
            for plain, other in product(sources_of(letters, weights), repeat=2):
                for length in range(longest + 1):
                    found = last(*told(plain, other), ("apart", length))
                    self.assertEqual(found, as_answer(far_apart(plain, other, length)))

    def test_what_holds_of_it(self):
        for letters, weights in ((2, range(6)), (3, (0, 1, 3)), (4, (0, 9))):
            for plain, other in product(sources_of(letters, weights), repeat=2):
                found = all_lengths(plain, other)
                same = all(chance_of(plain, (l,)) == chance_of(other, (l,)) for l in range(letters))
                for length in range(1, 7):
                    self.assertLessEqual(found[length - 1], found[length])
                    self.assertLessEqual(found[length], length * found[1])
                    self.assertLessEqual(found[length], 1)
                    self.assertEqual(found[length] == 0, same)

    def test_swapping_changes_nothing_of_it(self):
        found = asked(*told((1, 2, 3), (7, 0, 2)), ("apart", 3), ("swap",), ("apart", 3))
        self.assertEqual(found[3], found[5])

    def test_of_what_is_told_last(self):
        found = asked(("begin", 2), ("apart", 1), ("other", 0, 1), ("apart", 1), ("plain", 0, 9), ("apart", 1))
        self.assertEqual(found, [[0], [0, 0, 1], [1], [0, 1, 2], [9], [0, 0, 1]])

    def test_too_many_letters_are_refused_and_change_nothing(self):
        for length in (7, 8, GREATEST):
            found = asked(*told((1, 3), (1, 1)), ("apart", length), ("sourceis", 0), ("sourceis", 1), ("apart", 2))
            self.assertEqual(found[3:], [[-22], [2, 1, 3], [2, 1, 1], [0, 5, 16]])


if __name__ == "__main__":
    unittest.main()
