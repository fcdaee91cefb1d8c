"""Promise 2: letter, chance, likelier, ratio."""

import unittest
from itertools import product

from lines import BOTH, GREATEST, PAIRS, answers, as_answer, asked, chance_of, last, line, sources_of, told, words_of


def refused_words(letters):
    return [
        (letters,), (0, letters), (letters, 0), (GREATEST,), (0, 0, 0, 0, 0, letters),
        (0,) * 7, (0,) * 8, (1,) * 7, (letters,) * 8,
    ]


class Letter(unittest.TestCase):
    def test_the_whole_list(self):
        calls = line(*told((1, 3), (2, 0)), ("letter", 0, 0), ("letter", 0, 1), ("letter", 1, 0), ("letter", 1, 1))
        self.assertEqual(answers(calls), [1, 0, 1, 4, 1, 2, 3, 0, 1, 4, 3, 0, 3, 4, 3, 0, 1, 1, 3, 0, 0, 1])

    def test_nothing_in_common(self):
        for letters in (2, 3, 4):
            for row in sources_of(letters, (0, 2, 6, 9)):
                found = asked(("begin", letters), ("other", *row), *[("letter", 1, l) for l in range(letters)])
                self.assertEqual(found[2:], [as_answer(chance_of(row, (l,))) for l in range(letters)])

    def test_refusals_and_their_order(self):
        before = told((1, 2, 3), (4, 5, 6))
        self.assertEqual(last(*before, ("letter", 2, 0)), [-22])
        self.assertEqual(last(*before, ("letter", GREATEST, 2)), [-22])
        self.assertEqual(last(*before, ("letter", 0, 3)), [-2])
        self.assertEqual(last(*before, ("letter", 1, GREATEST)), [-2])
        self.assertEqual(last(*before, ("letter", 2, 3)), [-22])


class Chance(unittest.TestCase):
    def test_the_whole_list(self):
        calls = line(*told((1, 3), (2, 2)), ("chance", 0, 0, 1, 1), ("chance", 1, 0, 1), ("chance", 0))
        self.assertEqual(answers(calls), [1, 0, 1, 4, 1, 4, 3, 0, 9, 64, 3, 0, 1, 4, 3, 0, 1, 1])

    def test_a_word_of_no_letters_is_sure(self):
        for plain, other in PAIRS:
            found = asked(*told(plain, other), ("chance", 0), ("chance", 1))
            self.assertEqual(found[3:], [[0, 1, 1], [0, 1, 1]])

    def test_a_letter_that_is_not_drawn(self):
        found = asked(*told((0, 5), (5, 0)), ("chance", 0, 0), ("chance", 0, 1, 0, 1), ("chance", 1, 0, 0, 0))
        self.assertEqual(found[3:], [[0, 0, 1], [0, 0, 1], [0, 1, 1]])

    def test_six_letters_of_four(self):
        self.assertEqual(last(("begin", 4), ("chance", 0, 0, 1, 2, 3, 0, 1)), [0, 1, 4096])
        self.assertEqual(
            last(*told((9, 9, 9, 8), (1, 1, 1, 1)), ("chance", 0, 3, 3, 3, 3, 3, 3)), [0, 8 ** 6, 35 ** 6])

    def test_all_words(self):
        for pair in PAIRS:
            for length in range(4):
                for word in words_of(len(pair[0]), length):
                    found = asked(*told(*pair), ("chance", 0, *word), ("chance", 1, *word))
                    self.assertEqual(found[3:], [as_answer(chance_of(row, word)) for row in pair])

    def test_refusals(self):
        for letters in (2, 3, 4):
            for word in refused_words(letters):
                for source in (0, 1, 2):
                    self.assertEqual(last(("begin", letters), ("chance", source, *word)), [-22])
        for word in ((), (0,), (0, 1, 0, 1, 0, 1)):
            for source in (2, GREATEST):
                self.assertEqual(last(("begin", 2), ("chance", source, *word)), [-22])


class Likelier(unittest.TestCase):
    def test_the_whole_list(self):
        calls = line(*told((1, 3), (1, 1)), ("likelier", 0), ("likelier", 1), ("likelier",), ("likelier", 0, 1))
        self.assertEqual(answers(calls), [1, 0, 1, 4, 1, 2, 1, 1, 1, 0, 1, 2, 1, 1])

    def test_greater_weights_alone_are_no_likelier(self):
        before = told((1, 2, 3), (3, 6, 9))
        for word in words_of(3, 3):
            self.assertEqual(last(*before, ("likelier", *word)), [2])

    def test_a_word_that_is_not_likely_at_all(self):
        self.assertEqual(last(*told((0, 1, 1), (0, 1, 2)), ("likelier", 1, 0)), [2])
        self.assertEqual(last(*told((0, 1, 1), (1, 1, 2)), ("likelier", 1, 0)), [1])
        self.assertEqual(last(*told((1, 1, 1), (0, 1, 2)), ("likelier", 1, 0)), [0])

    def test_all_words(self):
        for plain, other in PAIRS:
            for length in range(4):
                for word in words_of(len(plain), length):
                    by_plain, by_other = chance_of(plain, word), chance_of(other, word)
                    expected = 0 if by_plain > by_other else 1 if by_other > by_plain else 2
                    self.assertEqual(last(*told(plain, other), ("likelier", *word)), [expected])

    def test_refusals(self):
        for letters in (2, 3, 4):
            for word in refused_words(letters):
                self.assertEqual(last(("begin", letters), ("likelier", *word)), [-22])


class Ratio(unittest.TestCase):
    def test_the_whole_list(self):
        calls = line(*told((1, 3), (1, 1)), ("ratio", 0), ("ratio", 1), ("ratio",), ("ratio", 0, 1, 1))
        self.assertEqual(answers(calls), [1, 0, 1, 4, 1, 2, 3, 0, 2, 1, 3, 0, 2, 3, 3, 0, 1, 1, 3, 0, 8, 9])

    def test_none(self):
        self.assertEqual(last(*told((1, 1), (0, 1)), ("ratio", 0)), [0, 0, 1])
        self.assertEqual(last(*told((3, 9), (0, 7)), ("ratio", 1, 0, 1)), [0, 0, 1])

    def test_not_likely_by_the_harmless_one(self):
        self.assertEqual(last(*told((0, 1), (1, 1)), ("ratio", 0)), [-33])
        self.assertEqual(last(*told((0, 1), (1, 1)), ("ratio", 1, 1, 0)), [-33])

    def test_not_likely_by_either(self):
        self.assertEqual(last(*told((0, 1, 1), (0, 2, 1)), ("ratio", 0)), [-6])
        self.assertEqual(last(*told((0, 1), (1, 0)), ("ratio", 0, 1)), [-6])

    def test_a_letter_there_is_not_comes_first(self):
        self.assertEqual(last(*told((0, 1), (0, 1)), ("ratio", 0, 2)), [-22])
        self.assertEqual(last(*told((0, 1), (1, 1)), ("ratio", 0, 2)), [-22])
        self.assertEqual(last(*told((0, 1), (1, 1)), ("ratio", *(0,) * 7)), [-22])

    def test_six_letters_of_four(self):
        # 9 of 28 by 8 of 35 is 45 by 32.
        self.assertEqual(last(*told((9, 9, 9, 8), (1, 9, 9, 9)), ("ratio", *(3,) * 6)), [0, 45 ** 6, 32 ** 6])

    def test_all_words(self):
        for plain, other in PAIRS:
            for length in range(4):
                for word in words_of(len(plain), length):
                    by_plain, by_other = chance_of(plain, word), chance_of(other, word)
                    if by_plain > 0:
                        expected = as_answer(by_other / by_plain)
                    else:
                        expected = [-33] if by_other > 0 else [-6]
                    self.assertEqual(last(*told(plain, other), ("ratio", *word)), expected)

    def test_refusals(self):
        for letters in (2, 3, 4):
            for word in refused_words(letters):
                self.assertEqual(last(("begin", letters), ("ratio", *word)), [-22])


class NothingChanges(unittest.TestCase):
    def test_asking_leaves_both_sources_as_they_are(self):
        asks = [
            ("letter", 0, 0), ("letter", 2, 0), ("letter", 0, 2), ("chance", 1, 0, 1), ("chance", 2), ("chance", 0, 2),
            ("likelier", 0), ("likelier", 2), ("ratio", 1), ("ratio", 0), ("ratio", 2), ("ratio", 0, 1),
        ]
        for pair in product(((0, 7), (7, 0)), ((3, 0), (0, 4))):
            for ask in asks:
                found = asked(*told(*pair), ask, *BOTH)
                self.assertEqual(found[4:], [[2, *pair[0]], [2, *pair[1]]])


if __name__ == "__main__":
    unittest.main()
