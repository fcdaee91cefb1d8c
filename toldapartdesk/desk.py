"""What is kept along a line of calls, and what each call answers."""

from toldapartdesk.words import MOST_LETTERS_OF_A_WORD
from toldapartdesk.words import chances_compared
from toldapartdesk.words import fraction
from toldapartdesk.words import how_far_apart
from toldapartdesk.words import is_source
from toldapartdesk.words import is_word
from toldapartdesk.words import word_chance

NO_SUCH_LETTER = -2
NOT_LIKELY_BY_EITHER = -6
NOT_BEGUN = -11
NOT_AS_TOLD = -22
NOT_LIKELY_BY_PLAIN = -33

FEWEST_LETTERS = 2
MOST_LETTERS = 4

PLAIN = 0
OTHER = 1

BEGIN = 0


class Desk:
    def __init__(self):
        # No letters: nothing has begun yet.
        self.letters = 0
        self.weights = [[], []]


def begin(desk, numbers):
    letters = numbers[0]
    if letters < FEWEST_LETTERS or letters > MOST_LETTERS:
        return [NOT_AS_TOLD]
    desk.letters = letters
    desk.weights = [[1] * letters, [1] * letters]
    return [0]


def tell_source(desk, source, row):
    if not is_source(row, desk.letters):
        return [NOT_AS_TOLD]
    desk.weights[source] = list(row)
    return [sum(row)]


def plain(desk, numbers):
    return tell_source(desk, PLAIN, numbers)


def other(desk, numbers):
    return tell_source(desk, OTHER, numbers)


def sourceis(desk, numbers):
    source = numbers[0]
    if source > OTHER:
        return [NOT_AS_TOLD]
    return [desk.letters] + desk.weights[source]


def swap(desk, numbers):
    desk.weights = [desk.weights[OTHER], desk.weights[PLAIN]]
    return [0]


def letter(desk, numbers):
    source = numbers[0]
    asked = numbers[1]
    if source > OTHER:
        return [NOT_AS_TOLD]
    if asked >= desk.letters:
        return [NO_SUCH_LETTER]
    # A letter is as likely as the word of it alone.
    return [0] + word_chance(desk.weights[source], [asked])


def chance(desk, numbers):
    source = numbers[0]
    word = numbers[1:]
    if source > OTHER or not is_word(word, desk.letters):
        return [NOT_AS_TOLD]
    return [0] + word_chance(desk.weights[source], word)


def likelier(desk, numbers):
    if not is_word(numbers, desk.letters):
        return [NOT_AS_TOLD]
    compared = chances_compared(desk.weights[PLAIN], desk.weights[OTHER], numbers)
    if compared[PLAIN] > compared[OTHER]:
        return [0]
    if compared[OTHER] > compared[PLAIN]:
        return [1]
    return [2]


def ratio(desk, numbers):
    if not is_word(numbers, desk.letters):
        return [NOT_AS_TOLD]
    compared = chances_compared(desk.weights[PLAIN], desk.weights[OTHER], numbers)
    if compared[PLAIN] == 0 and compared[OTHER] == 0:
        return [NOT_LIKELY_BY_EITHER]
    if compared[PLAIN] == 0:
        return [NOT_LIKELY_BY_PLAIN]
    return [0] + fraction(compared[OTHER], compared[PLAIN])


def apart(desk, numbers):
    length = numbers[0]
    if length > MOST_LETTERS_OF_A_WORD:
        return [NOT_AS_TOLD]
    return [0] + how_far_apart(desk.weights[PLAIN], desk.weights[OTHER], length)


# Each call stands at its own number.
CALLS = (begin, plain, other, sourceis, swap, letter, chance, likelier, ratio, apart)


def answer_of_call(desk, number, numbers):
    if desk.letters == 0 and number != BEGIN:
        return [NOT_BEGUN]
    if number >= len(CALLS):
        # To say so is better than an answer that the document doesn't tell.
        raise NotImplementedError(f"call {number} is not built yet")
    call = CALLS[number]
    return call(desk, numbers)
