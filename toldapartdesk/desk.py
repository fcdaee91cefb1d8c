"""What is kept along a line of calls, and what each call answers."""

from toldapartdesk.told import best_told_test
from toldapartdesk.told import chance_of_alarm
from toldapartdesk.told import chance_of_miss
from toldapartdesk.words import MOST_LETTERS_OF_A_WORD
from toldapartdesk.words import chance_above
from toldapartdesk.words import chances_compared
from toldapartdesk.words import fewest_letters_apart
from toldapartdesk.words import fraction
from toldapartdesk.words import how_far_apart
from toldapartdesk.words import how_many_said_other
from toldapartdesk.words import how_often_best_errs
from toldapartdesk.words import is_same_source
from toldapartdesk.words import is_source
from toldapartdesk.words import is_word
from toldapartdesk.words import word_chance

NO_SUCH_LETTER = -2
NOT_LIKELY_BY_EITHER = -6
NOT_BEGUN = -11
NOT_AS_TOLD = -22
NOT_LIKELY_BY_PLAIN = -33
NEVER_SO_FAR_APART = -33

FEWEST_LETTERS = 2
MOST_LETTERS = 4
MOST_HUNDREDTHS = 100
MOST_OF_A_BOUND = 1000

PLAIN = 0
OTHER = 1

BEGIN = 0


class Desk:
    def __init__(self):
        # No letters: nothing has begun yet.
        self.letters = 0
        self.weights = [[], []]


def begin(desk, numbers):
    letters = numbers[0]
    if letters < FEWEST_LETTERS or letters > MOST_LETTERS:
        return [NOT_AS_TOLD]
    desk.letters = letters
    desk.weights = [[1] * letters, [1] * letters]
    return [0]


def tell_source(desk, source, row):
    if not is_source(row, desk.letters):
        return [NOT_AS_TOLD]
    desk.weights[source] = list(row)
    return [sum(row)]


def plain(desk, numbers):
    return tell_source(desk, PLAIN, numbers)


def other(desk, numbers):
    return tell_source(desk, OTHER, numbers)


def sourceis(desk, numbers):
    source = numbers[0]
    if source > OTHER:
        return [NOT_AS_TOLD]
    return [desk.letters] + desk.weights[source]


def swap(desk, numbers):
    desk.weights = [desk.weights[OTHER], desk.weights[PLAIN]]
    return [0]


def letter(desk, numbers):
    source = numbers[0]
    asked = numbers[1]
    if source > OTHER:
        return [NOT_AS_TOLD]
    if asked >= desk.letters:
        return [NO_SUCH_LETTER]
    # A letter is as likely as the word of it alone.
    return [0] + word_chance(desk.weights[source], [asked])


def chance(desk, numbers):
    source = numbers[0]
    word = numbers[1:]
    if source > OTHER or not is_word(word, desk.letters):
        return [NOT_AS_TOLD]
    return [0] + word_chance(desk.weights[source], word)


def likelier(desk, numbers):
    if not is_word(numbers, desk.letters):
        return [NOT_AS_TOLD]
    compared = chances_compared(desk.weights[PLAIN], desk.weights[OTHER], numbers)
    if compared[PLAIN] > compared[OTHER]:
        return [0]
    if compared[OTHER] > compared[PLAIN]:
        return [1]
    return [2]


def ratio(desk, numbers):
    if not is_word(numbers, desk.letters):
        return [NOT_AS_TOLD]
    compared = chances_compared(desk.weights[PLAIN], desk.weights[OTHER], numbers)
    if compared[PLAIN] == 0 and compared[OTHER] == 0:
        return [NOT_LIKELY_BY_EITHER]
    if compared[PLAIN] == 0:
        return [NOT_LIKELY_BY_PLAIN]
    return [0] + fraction(compared[OTHER], compared[PLAIN])


def apart(desk, numbers):
    length = numbers[0]
    if length > MOST_LETTERS_OF_A_WORD:
        return [NOT_AS_TOLD]
    return [0] + how_far_apart(desk.weights[PLAIN], desk.weights[OTHER], length)


def errs(desk, numbers):
    length = numbers[0]
    if length > MOST_LETTERS_OF_A_WORD:
        return [NOT_AS_TOLD]
    return [0] + how_often_best_errs(desk.weights[PLAIN], desk.weights[OTHER], length)


def needed(desk, numbers):
    hundredths = numbers[0]
    if hundredths > MOST_HUNDREDTHS:
        return [NOT_AS_TOLD]
    length = fewest_letters_apart(desk.weights[PLAIN], desk.weights[OTHER], hundredths)
    if length is None:
        return [NEVER_SO_FAR_APART]
    return [length]


def refusal_of_told_test(desk, asked, length):
    if asked >= desk.letters:
        return [NO_SUCH_LETTER]
    if length > MOST_LETTERS_OF_A_WORD:
        return [NOT_AS_TOLD]
    return None


def alarms(desk, numbers):
    refusal = refusal_of_told_test(desk, numbers[0], numbers[2])
    if refusal is not None:
        return refusal
    return [0] + chance_of_alarm(desk.weights[PLAIN], numbers[0], numbers[1], numbers[2])


def misses(desk, numbers):
    refusal = refusal_of_told_test(desk, numbers[0], numbers[2])
    if refusal is not None:
        return refusal
    return [0] + chance_of_miss(desk.weights[OTHER], numbers[0], numbers[1], numbers[2])


def besttold(desk, numbers):
    length = numbers[0]
    if length > MOST_LETTERS_OF_A_WORD:
        return [NOT_AS_TOLD]
    return best_told_test(desk.weights[PLAIN], desk.weights[OTHER], length)


def is_bound(upper, lower):
    return upper <= MOST_OF_A_BOUND and 1 <= lower <= MOST_OF_A_BOUND


def above(desk, numbers):
    source = numbers[0]
    length = numbers[1]
    if source > OTHER or length > MOST_LETTERS_OF_A_WORD or not is_bound(numbers[2], numbers[3]):
        return [NOT_AS_TOLD]
    bound = (numbers[2], numbers[3])
    return [0] + chance_above(desk.weights[PLAIN], desk.weights[OTHER], source, length, bound)


def says(desk, numbers):
    length = numbers[0]
    if length > MOST_LETTERS_OF_A_WORD:
        return [NOT_AS_TOLD]
    return [how_many_said_other(desk.weights[PLAIN], desk.weights[OTHER], length)]


def ifplain(desk, numbers):
    length = numbers[0]
    row = numbers[1:]
    if length > MOST_LETTERS_OF_A_WORD or not is_source(row, desk.letters):
        return [NOT_AS_TOLD]
    return [0] + how_far_apart(row, desk.weights[OTHER], length)


def samesource(desk, numbers):
    if is_same_source(desk.weights[PLAIN], desk.weights[OTHER]):
        return [1]
    return [0]


def count(desk, numbers):
    return [desk.letters]


# Each call stands at its own number.
CALLS = (
    begin, plain, other, sourceis, swap, letter, chance, likelier, ratio, apart,
    errs, needed, alarms, misses, besttold, above, says, ifplain, samesource, count,
)


def answer_of_call(desk, number, numbers):
    if desk.letters == 0 and number != BEGIN:
        return [NOT_BEGUN]
    call = CALLS[number]
    return call(desk, numbers)
