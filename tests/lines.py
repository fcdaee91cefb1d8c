"""Writes calls as the interface has them and reads answers back, for all the tests."""

from fractions import Fraction
from itertools import product

from toldapartdesk.sources import answers

NAMES = (
    "begin", "plain", "other", "sourceis", "swap", "letter", "chance", "likelier", "ratio", "apart",
    "errs", "needed", "alarms", "misses", "besttold", "above", "says", "ifplain", "samesource", "count",
)

GREATEST = 4294967295

BOTH = [("sourceis", 0), ("sourceis", 1)]

# By rows: ordinary ones, a weight of 0 in the one alone, a letter that neither draws, the same source
# told with greater weights, two letters alike, and one letter alone.
PAIRS = (
    ((1, 2), (3, 1)), ((0, 1), (1, 0)), ((0, 5), (2, 3)), ((2, 3), (0, 5)), ((1, 2), (3, 6)), ((9, 9), (1, 1)),
    ((1, 2, 3), (3, 2, 1)), ((0, 2, 3), (0, 1, 9)), ((4, 4, 1), (1, 1, 7)), ((0, 0, 1), (1, 0, 0)),
    ((1, 2, 3, 4), (4, 3, 2, 1)), ((0, 1, 0, 1), (1, 1, 0, 0)), ((9, 8, 7, 6), (0, 9, 0, 9)),
)

LONGEST_PAIRS = (((1, 2, 3, 4), (4, 3, 2, 1)), ((9, 8, 7, 6), (0, 9, 0, 9)), ((9, 9, 9, 8), (9, 9, 8, 9)))

# Rows that are no source where there are so many letters.
NO_SOURCES = {
    2: [(), (1,), (1, 1, 1), (0, 0), (10, 1), (1, 10), (0, GREATEST), (1, 1, 0), (1, 1, 1, 1, 1, 1)],
    3: [(), (1, 1), (1, 1, 1, 1), (0, 0, 0), (10, 1, 1), (1, 10, 1), (1, 1, 10), (GREATEST, 0, 0)],
    4: [(), (1, 1, 1), (1, 1, 1, 1, 1), (0, 0, 0, 0), (0, 0, 0, 10), (9, 9, 10, 9), (1, 1, 1, 1, 1, 1)],
}


def line(*calls):
    numbers = []
    for name, *given in calls:
        numbers += [NAMES.index(name), len(given), *given, 0]
    return numbers


def asked(*calls):
    """The answers to these calls, a list for each."""
    told = answers(line(*calls))
    found = []
    while told:
        found.append(told[1:1 + told[0]])
        told = told[1 + told[0]:]
    return found


def last(*calls):
    return asked(*calls)[-1]


def told(plain, other):
    """The calls that lay out these two sources."""
    return [("begin", len(plain)), ("plain", *plain), ("other", *other)]


def sources_of(letters, weights):
    return [row for row in product(weights, repeat=letters) if any(row)]


def words_of(letters, length):
    return list(product(range(letters), repeat=length))


def chance_of(row, word):
    """How likely a word is, straight from the document's words."""
    likely = Fraction(1)
    for letter in word:
        likely *= Fraction(row[letter], sum(row))
    return likely


def far_apart(plain, other, length):
    gaps = [abs(chance_of(plain, word) - chance_of(other, word)) for word in words_of(len(plain), length)]
    return sum(gaps) / 2


def two(likely):
    return [likely.numerator, likely.denominator]


def as_answer(likely):
    return [0, *two(likely)]


def as_fraction(answer):
    """What such an answer tells, which must be 0 and two numbers."""
    first, upper, lower = answer
    if first != 0:
        raise ValueError(answer)
    return Fraction(upper, lower)
