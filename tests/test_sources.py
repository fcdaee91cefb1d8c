"""Promise 1: begin, plain, other, sourceis, swap, count, samesource."""

import unittest
from itertools import product

from lines import BOTH, GREATEST, NO_SOURCES, PAIRS, answers, asked, chance_of, last, line, sources_of, told


class Begin(unittest.TestCase):
    def test_all_weights_of_both_sources_are_one(self):
        for letters in (2, 3, 4):
            ones = [letters] + [1] * letters
            self.assertEqual(asked(("begin", letters), *BOTH), [[0], ones, ones])

    def test_other_numbers_of_letters_are_refused(self):
        for letters in (0, 1, 5, 6, GREATEST):
            self.assertEqual(asked(("begin", letters)), [[-22]])

    def test_it_may_come_again_and_lays_all_out_anew(self):
        found = asked(*told((1, 2, 3), (4, 5, 6)), ("begin", 3), *BOTH, ("begin", 2), *BOTH)
        self.assertEqual(found[3:], [[0], [3, 1, 1, 1], [3, 1, 1, 1], [0], [2, 1, 1], [2, 1, 1]])

    def test_what_another_begin_has_fewer_letters_for_is_refused(self):
        found = asked(("begin", 4), ("begin", 2), ("plain", 1, 1, 1, 1), ("chance", 0, 2), ("letter", 0, 2))
        self.assertEqual(found, [[0], [0], [-22], [-22], [-2]])

    def test_a_refused_one_changes_nothing(self):
        for letters in (0, 1, 5, GREATEST):
            found = asked(*told((1, 2, 3), (4, 5, 6)), ("begin", letters), *BOTH)
            self.assertEqual(found[3:], [[-22], [3, 1, 2, 3], [3, 4, 5, 6]])


class TellingSources(unittest.TestCase):
    def test_the_whole_list(self):
        calls = line(("begin", 3), ("plain", 1, 2, 3), ("other", 9, 0, 9), *BOTH)
        self.assertEqual(answers(calls), [1, 0, 1, 6, 1, 18, 4, 3, 1, 2, 3, 4, 3, 9, 0, 9])

    def test_each_is_told_by_itself(self):
        ones = [2, 1, 1]
        self.assertEqual(asked(("begin", 2), ("plain", 3, 4), *BOTH), [[0], [7], [2, 3, 4], ones])
        self.assertEqual(asked(("begin", 2), ("other", 3, 4), *BOTH), [[0], [7], ones, [2, 3, 4]])

    def test_the_later_one_holds(self):
        found = asked(*told((3, 4), (5, 6)), ("plain", 7, 8), ("other", 9, 0), *BOTH)
        self.assertEqual(found[3:], [[15], [9], [2, 7, 8], [2, 9, 0]])

    def test_weights_are_kept_as_they_are_told(self):
        found = asked(*told((2, 4), (9, 9)), *BOTH)
        self.assertEqual(found, [[0], [6], [18], [2, 2, 4], [2, 9, 9]])

    def test_every_row_of_edge_weights(self):
        for letters in (2, 3, 4):
            for row in sources_of(letters, (0, 1, 9)):
                for name in ("plain", "other"):
                    self.assertEqual(last(("begin", letters), (name, *row)), [sum(row)])

    def test_what_is_no_source_is_refused_and_changes_nothing(self):
        for letters, rows in NO_SOURCES.items():
            before = told(tuple(range(1, 1 + letters)), tuple(range(5, 5 + letters)))
            for row in rows:
                for name in ("plain", "other"):
                    found = asked(*before, *BOTH, (name, *row), *BOTH)
                    self.assertEqual(found[5], [-22], (letters, name, row))
                    self.assertEqual(found[6:], found[3:5])


class SourceIs(unittest.TestCase):
    def test_there_are_two(self):
        for source in (2, 3, GREATEST):
            self.assertEqual(last(("begin", 2), ("sourceis", source)), [-22])


class Swap(unittest.TestCase):
    def test_each_is_the_other_one(self):
        found = asked(*told((1, 2, 3), (4, 5, 6)), ("swap",), *BOTH)
        self.assertEqual(found[3:], [[0], [3, 4, 5, 6], [3, 1, 2, 3]])

    def test_twice_leaves_them_as_they_were(self):
        found = asked(*told((1, 2, 3), (4, 5, 6)), ("swap",), ("swap",), *BOTH)
        self.assertEqual(found[3:], [[0], [0], [3, 1, 2, 3], [3, 4, 5, 6]])

    def test_what_is_told_behind_it_is_told_of_one_alone(self):
        found = asked(*told((1, 2), (3, 4)), ("swap",), ("plain", 5, 6), *BOTH, ("swap",), ("plain", 7, 8), *BOTH)
        self.assertEqual(found[5:7], [[2, 5, 6], [2, 1, 2]])
        self.assertEqual(found[9:], [[2, 7, 8], [2, 5, 6]])

    def test_what_is_asked_of_words_goes_with_it(self):
        ask = [("letter", 0, 0), ("chance", 1, 0, 1), ("likelier", 0), ("ratio", 0)]
        found = asked(*told((1, 3), (1, 1)), *ask, ("swap",), *ask)
        self.assertEqual(found[3:7], [[0, 1, 4], [0, 1, 4], [1], [0, 2, 1]])
        self.assertEqual(found[8:], [[0, 1, 2], [0, 3, 16], [0], [0, 1, 2]])


class Count(unittest.TestCase):
    def test_the_whole_list(self):
        calls = line(("begin", 3), ("count",), ("begin", 4), ("count",), ("begin", 2), ("count",))
        self.assertEqual(answers(calls), [1, 0, 1, 3, 1, 0, 1, 4, 1, 0, 1, 2])

    def test_a_refused_begin_changes_nothing_of_it(self):
        for letters in (2, 3, 4):
            for wrong in (0, 1, 5, GREATEST):
                self.assertEqual(asked(("begin", letters), ("begin", wrong), ("count",)), [[0], [-22], [letters]])

    def test_letters_that_are_not_drawn_count(self):
        self.assertEqual(last(*told((0, 0, 1, 0), (0, 0, 9, 0)), ("count",)), [4])

    def test_before_a_begin(self):
        self.assertEqual(asked(("count",), ("begin", 5), ("count",)), [[-11], [-22], [-11]])


class SameSource(unittest.TestCase):
    def test_the_whole_list(self):
        calls = line(
            ("begin", 2), ("samesource",), ("plain", 1, 3), ("samesource",), ("other", 3, 9), ("samesource",),
            ("other", 3, 1), ("samesource",))
        self.assertEqual(answers(calls), [1, 0, 1, 1, 1, 4, 1, 0, 1, 12, 1, 1, 1, 4, 1, 0])

    def test_greater_weights_alone_make_no_other_source(self):
        for plain, other in (((1, 2, 3), (3, 6, 9)), ((9, 9), (1, 1)), ((4, 6), (6, 9)), ((0, 0, 7, 0), (0, 0, 2, 0))):
            self.assertEqual(last(*told(plain, other), ("samesource",)), [1])
            self.assertEqual(last(*told(other, plain), ("samesource",)), [1])

    def test_one_letter_as_likely_is_not_enough(self):
        for plain, other in (((2, 1, 1), (4, 3, 1)), ((1, 2, 1), (3, 4, 1)), ((1, 1, 1, 1), (1, 1, 0, 2))):
            self.assertEqual(last(*told(plain, other), ("samesource",)), [0])

    def test_the_same_weights_at_other_letters(self):
        self.assertEqual(last(*told((1, 2), (2, 1)), ("samesource",)), [0])

    def test_a_weight_of_none_in_the_one_alone(self):
        self.assertEqual(last(*told((0, 1), (1, 1)), ("samesource",)), [0])
        self.assertEqual(last(*told((1, 1), (0, 1)), ("samesource",)), [0])
        self.assertEqual(last(*told((1, 0), (0, 1)), ("samesource",)), [0])

    def test_many_pairs(self):
        for letters, weights in ((2, range(10)), (3, (0, 1, 2, 6)), (4, (0, 3))):
            for plain, other in product(sources_of(letters, weights), repeat=2):
                same = all(chance_of(plain, (l,)) == chance_of(other, (l,)) for l in range(letters))
                self.assertEqual(last(*told(plain, other), ("samesource",)), [int(same)])

    def test_it_changes_nothing(self):
        for plain, other in PAIRS:
            found = asked(*told(plain, other), ("samesource",), ("count",), *BOTH)
            self.assertEqual(found[4:], [[len(plain)], [len(plain), *plain], [len(other), *other]])

    def test_before_a_begin(self):
        self.assertEqual(asked(("samesource",), ("begin", 1), ("samesource",)), [[-11], [-22], [-11]])


if __name__ == "__main__":
    unittest.main()
