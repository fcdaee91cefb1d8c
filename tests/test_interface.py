"""The interface: how calls and answers are written, -11 before a begin, nothing changed and nothing kept."""

import unittest

from lines import BOTH, GREATEST, NAMES, answers, asked, line, told

EVERY_CALL_BUT_BEGIN = [
    ("plain", 1, 1), ("other", 1, 1), ("sourceis", 0), ("swap",), ("letter", 0, 0), ("chance", 0, 0), ("likelier", 0),
    ("ratio", 0), ("apart", 1), ("errs", 1), ("needed", 1), ("alarms", 0, 1, 1), ("misses", 0, 1, 1), ("besttold", 1),
    ("above", 0, 1, 1, 1), ("says", 1), ("ifplain", 1, 1, 1), ("samesource",), ("count",),
]

WRONG_CALLS = [
    ("plain",), ("plain", 0, 0), ("other", 1, 1, 1, 1, 1, 1), ("sourceis", 2), ("letter", 2, 9), ("letter", 0, GREATEST),
    ("chance", 2), ("chance", 0, 9), ("likelier", *(0,) * 8), ("ratio", GREATEST), ("apart", 7), ("errs", 7),
    ("needed", 101), ("alarms", 9, 0, 7), ("alarms", 0, 0, 7), ("misses", 9, 0, 7), ("misses", 0, 0, GREATEST),
    ("besttold", 7), ("above", 2, 7, 1001, 0), ("above", 0, 1, 1, 0), ("says", GREATEST), ("ifplain", 1),
    ("ifplain", 7, 1, 1), ("ifplain", 1, 0, 0), ("ifplain", 1, 1, 1, 1, 1, 1, 1),
]

# Behind a begin of two letters all of these are refused: with which number each is.
REFUSED = [(call, -2 if call[0] in ("alarms", "misses") and call[1] == 9 else -22) for call in WRONG_CALLS]
REFUSED[WRONG_CALLS.index(("letter", 0, GREATEST))] = (("letter", 0, GREATEST), -2)
REFUSED += [(("needed", 100), -33), (("ratio", 0), -33)]

STATE = [("count",), *BOTH, ("samesource",), ("apart", 3)]


class Writing(unittest.TestCase):
    def test_one_list_as_it_stands(self):
        calls = [
            0, 1, 3, 0, 1, 3, 1, 2, 3, 0, 2, 3, 0, 1, 1, 0, 3, 1, 0, 0, 4, 0, 0, 5, 2, 0, 1, 0,
            6, 3, 1, 2, 2, 0, 7, 0, 0, 8, 1, 0, 0, 9, 1, 1, 0,
        ]
        expected = [
            1, 0, 1, 6, 1, 2, 4, 3, 1, 2, 3, 1, 0, 3, 0, 1, 2,
            3, 0, 1, 4, 1, 2, 1, -33, 3, 0, 1, 6,
        ]
        self.assertEqual(answers(calls), expected)

    def test_the_later_calls_as_they_stand(self):
        calls = [
            0, 1, 2, 0, 1, 2, 1, 3, 0, 10, 1, 2, 0, 11, 1, 26, 0, 12, 3, 0, 1, 2, 0, 13, 3, 0, 1, 2, 0,
            14, 1, 2, 0, 15, 4, 1, 2, 4, 3, 0, 16, 1, 2, 0, 17, 3, 1, 1, 0, 0, 18, 0, 0, 19, 0, 0,
        ]
        expected = [
            1, 0, 1, 4, 3, 0, 11, 32, 1, 2, 3, 0, 7, 16, 3, 0, 1, 4,
            4, 0, 1, 11, 32, 3, 0, 3, 4, 1, 3, 3, 0, 1, 2, 1, 0, 1, 2,
        ]
        self.assertEqual(answers(calls), expected)

    def test_whole_numbers_in_a_list(self):
        found = answers(line(("begin", 2), *EVERY_CALL_BUT_BEGIN, ("apart", 7)))
        self.assertIs(type(found), list)
        self.assertEqual({type(number) for number in found}, {int})

    def test_sixty_calls_of_the_longest_kind(self):
        calls = line(("begin", 4), ("plain", 9, 8, 7, 6), *[("apart", 6)] * 58)
        found = answers(calls)
        self.assertEqual(found[:4], [1, 0, 1, 30])
        self.assertEqual(found[4:], found[4:8] * 58)

    def test_sixty_calls_of_each_that_takes_long(self):
        # These weights are never wholly apart, so that needed goes through all lengths.
        longest = (
            ("besttold", 6), ("needed", 100), ("errs", 6), ("above", 1, 6, 1000, 999), ("says", 6),
            ("alarms", 3, 3, 6), ("misses", 3, 3, 6), ("ifplain", 6, 2, 3, 5, 7),
        )
        for call in longest:
            found = asked(*told((9, 8, 7, 6), (5, 7, 8, 9)), *[call] * 57)
            self.assertEqual(len(found), 60)
            self.assertEqual(found[3:], [asked(*told((9, 8, 7, 6), (5, 7, 8, 9)), call)[3]] * 57)

    def test_sixty_calls_of_all_that_take_long_by_turns(self):
        # With one letter 0 or more: no harmless word has it, and 729 of 4,096 words of the other source miss it.
        turns = [("besttold", 6), ("needed", 100), ("apart", 6), ("above", 0, 6, 1, 1)]
        found = asked(*told((0, 0, 0, 1), (1, 1, 1, 1)), *turns * 14, ("needed", 99))
        self.assertEqual(len(found), 60)
        self.assertEqual(found[3:59], [[0, 1, 729, 8192], [-33], [0, 4095, 4096], [0, 0, 1]] * 14)
        self.assertEqual(found[59], [4])

    def test_a_list_of_eight_hundred_numbers(self):
        calls = line(("begin", 2), *[("likelier", *(0,) * 8)] * 59)
        self.assertLessEqual(len(calls), 800)
        self.assertEqual(answers(calls), [1, 0] + [1, -22] * 59)


class BeforeABegin(unittest.TestCase):
    def test_every_call_is_known_here(self):
        self.assertEqual(["begin"] + [call[0] for call in EVERY_CALL_BUT_BEGIN], list(NAMES))

    def test_all_else_is_refused(self):
        for call in EVERY_CALL_BUT_BEGIN:
            self.assertEqual(answers(line(call)), [1, -11], call)

    def test_whatever_else_is_wrong(self):
        for call in WRONG_CALLS:
            self.assertEqual(answers(line(call)), [1, -11], call)

    def test_a_refused_begin_does_not_count(self):
        for letters in (0, 1, 5, GREATEST):
            for call in EVERY_CALL_BUT_BEGIN:
                self.assertEqual(asked(("begin", letters), call, ("begin", letters)), [[-22], [-11], [-22]])

    def test_what_was_refused_left_nothing_behind(self):
        found = asked(("plain", 3, 4), ("swap",), ("begin", 5), ("begin", 2), ("sourceis", 0), ("sourceis", 1))
        self.assertEqual(found, [[-11], [-11], [-22], [0], [2, 1, 1], [2, 1, 1]])

    def test_a_begin_that_is_refused_later_leaves_it_begun(self):
        found = asked(("begin", 2), ("begin", 9), ("letter", 0, 0))
        self.assertEqual(found, [[0], [-22], [0, 1, 2]])


class NothingChangesTheState(unittest.TestCase):
    def test_a_refusal(self):
        for call, refusal in REFUSED:
            found = asked(*told((0, 3), (2, 5)), *STATE, call, *STATE)
            self.assertEqual(found[8], [refusal], call)
            self.assertEqual(found[9:], found[3:8], call)

    def test_asking(self):
        for call in EVERY_CALL_BUT_BEGIN:
            if call[0] in ("plain", "other", "swap"):
                continue
            found = asked(*told((1, 3), (2, 5)), *STATE, call, *STATE)
            self.assertGreaterEqual(found[8][0], 0, call)
            self.assertEqual(found[9:], found[3:8], call)


class NothingChangedOrKept(unittest.TestCase):
    LINES = [
        [("begin", 3), ("plain", 1, 2, 3), ("other", 3, 0, 1), ("swap",), ("sourceis", 0), ("chance", 0, 1, 2), ("apart", 3)],
        [("begin", 2), ("plain", 0, 0), ("other", 9, 9, 9), ("ratio", 0, 1), ("likelier", 2), ("swap",), ("swap",)],
        [("swap",), ("begin", 7), ("apart", 1)],
        [("begin", 4), ("sourceis", 0), ("sourceis", 1), ("plain", 0, 1, 0, 1), ("ratio", 0), ("letter", 1, 3)],
        [("begin", 3), ("other", 3, 0, 1), ("errs", 4), ("needed", 60), ("alarms", 0, 1, 3), ("misses", 0, 1, 3)],
        [("begin", 3), ("plain", 3, 0, 1), ("besttold", 3), ("above", 1, 3, 2, 1), ("says", 3), ("ifplain", 2, 9, 0, 1)],
        [("begin", 2), ("samesource",), ("count",), ("ifplain", 2, 0, 0), ("needed", 101), ("alarms", 2, 1, 7)],
        [("count",), ("samesource",), ("needed", 0), ("says", 0), ("begin", 2), ("count",), ("says", 0)],
    ]

    def test_the_list_that_is_handed_in_stays(self):
        for calls in self.LINES:
            handed = line(*calls)
            answers(handed)
            self.assertEqual(handed, line(*calls))

    def test_what_is_given_back_is_not_what_was_handed_in(self):
        handed = line(("begin", 2))
        found = answers(handed)
        found.append(5)
        self.assertEqual(handed, line(("begin", 2)))
        self.assertEqual(answers(handed), [1, 0])

    def test_asking_again_gives_the_same(self):
        first = [answers(line(*calls)) for calls in self.LINES]
        again = [answers(line(*calls)) for calls in reversed(self.LINES)]
        self.assertEqual(first, again[::-1])

    def test_nothing_is_begun_by_an_earlier_list(self):
        answers(line(("begin", 2), ("plain", 3, 4)))
        self.assertEqual(asked(("sourceis", 0)), [[-11]])
        self.assertEqual(asked(("begin", 2), ("sourceis", 0)), [[0], [2, 1, 1]])


if __name__ == "__main__":
    unittest.main()
