"""Sources, words and how likely they are, in whole numbers alone."""

MOST_WEIGHT = 9
MOST_LETTERS_OF_A_WORD = 6


def is_source(row, letters):
    if len(row) != letters:
        return False
    # Weights are never below 0, so a greatest one of 0 means that all are 0.
    return 1 <= max(row) <= MOST_WEIGHT


def is_word(row, letters):
    if len(row) > MOST_LETTERS_OF_A_WORD:
        return False
    return all([letter < letters for letter in row])


def power(base, times):
    product = 1
    for turn in range(times):
        product = product * base
    return product


def fraction(upper, lower):
    # Euclid's way; with an upper number of 0 it leaves 0 and 1, as 0 is to be told.
    common = lower
    rest = upper
    while rest > 0:
        left = common % rest
        common = rest
        rest = left
    return [upper // common, lower // common]


def word_weight(weights, word):
    product = 1
    for letter in word:
        product = product * weights[letter]
    return product


def word_chance(weights, word):
    return fraction(word_weight(weights, word), power(sum(weights), len(word)))


def with_one_total(plain_weights, other_weights):
    # The same two sources, told with greater weights: with one total for both, how likely
    # words are by the one and by the other compares as whole numbers.
    plain_total = sum(plain_weights)
    other_total = sum(other_weights)
    level_plain = [weight * other_total for weight in plain_weights]
    level_other = [weight * plain_total for weight in other_weights]
    return (level_plain, level_other)


def is_same_source(plain_weights, other_weights):
    level = with_one_total(plain_weights, other_weights)
    return level[0] == level[1]


def chances_compared(plain_weights, other_weights, word):
    level = with_one_total(plain_weights, other_weights)
    return (word_weight(level[0], word), word_weight(level[1], word))


def one_letter_longer(many_of_pairs, level):
    longer = {}
    for pair, many in many_of_pairs.items():
        for by_plain, by_other in zip(level[0], level[1]):
            grown = (pair[0] * by_plain, pair[1] * by_other)
            longer[grown] = longer.get(grown, 0) + many
    return longer


def all_words(plain_weights, other_weights, length):
    # By how likely words are by the two sources, how many of them are so. The order of
    # letters doesn't matter there, so 4,096 words of six letters of four are at most 84 pairs.
    level = with_one_total(plain_weights, other_weights)
    many_of_pairs = {(1, 1): 1}
    for place in range(length):
        many_of_pairs = one_letter_longer(many_of_pairs, level)
    return many_of_pairs


def whole_of_words(plain_weights, other_weights, length):
    # What all words come to together, by either source of all_words.
    return power(sum(plain_weights) * sum(other_weights), length)


def how_far_apart(plain_weights, other_weights, length):
    many_of_pairs = all_words(plain_weights, other_weights, length)
    gap = 0
    for pair, many in many_of_pairs.items():
        gap = gap + many * abs(pair[0] - pair[1])
    return fraction(gap, 2 * whole_of_words(plain_weights, other_weights, length))


def how_often_best_errs(plain_weights, other_weights, length):
    far = how_far_apart(plain_weights, other_weights, length)
    return fraction(far[1] - far[0], 2 * far[1])


def how_many_said_other(plain_weights, other_weights, length):
    many_of_pairs = all_words(plain_weights, other_weights, length)
    return sum([many for pair, many in many_of_pairs.items() if pair[1] > pair[0]])


def fewest_letters_apart(plain_weights, other_weights, hundredths):
    for length in range(MOST_LETTERS_OF_A_WORD + 1):
        far = how_far_apart(plain_weights, other_weights, length)
        if far[0] * 100 >= hundredths * far[1]:
            return length
    return None


def chance_above(plain_weights, other_weights, source, length, bound):
    # Both sides are multiplied out: a word that the harmless source doesn't draw has no ratio,
    # and is still at least any number of times as likely.
    many_of_pairs = all_words(plain_weights, other_weights, length)
    likely = 0
    for pair, many in many_of_pairs.items():
        if pair[1] * bound[1] >= pair[0] * bound[0]:
            likely = likely + many * pair[source]
    return fraction(likely, whole_of_words(plain_weights, other_weights, length))
