"""Writes calls as the interface has them and reads answers back, for all the tests."""

from fractions import Fraction
from itertools import product

from toldapartdesk.sources import answers

NAMES = (
    "begin", "plain", "other", "sourceis", "swap", "letter", "chance", "likelier", "ratio", "apart",
    "errs", "needed", "alarms", "misses", "besttold", "above", "says", "ifplain", "samesource", "count",
)

GREATEST = 4294967295


def line(*calls):
    numbers = []
    for name, *given in calls:
        numbers += [NAMES.index(name), len(given), *given, 0]
    return numbers


def asked(*calls):
    """The answers to these calls, a list for each."""
    told = answers(line(*calls))
    found = []
    while told:
        found.append(told[1:1 + told[0]])
        told = told[1 + told[0]:]
    return found


def last(*calls):
    return asked(*calls)[-1]


def told(plain, other):
    """The calls that lay out these two sources."""
    return [("begin", len(plain)), ("plain", *plain), ("other", *other)]


def sources_of(letters, weights):
    return [row for row in product(weights, repeat=letters) if any(row)]


def words_of(letters, length):
    return list(product(range(letters), repeat=length))


def chance_of(row, word):
    """How likely a word is, straight from the document's words."""
    likely = Fraction(1)
    for letter in word:
        likely *= Fraction(row[letter], sum(row))
    return likely


def as_answer(likely):
    return [0, likely.numerator, likely.denominator]
