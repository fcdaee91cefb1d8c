"""Sources, words and how likely they are, in whole numbers alone."""

MOST_WEIGHT = 9
MOST_LETTERS_OF_A_WORD = 6


def is_source(row, letters):
    if len(row) != letters:
        return False
    # Weights are never below 0, so a greatest one of 0 means that all are 0.
    return 1 <= max(row) <= MOST_WEIGHT


def is_word(row, letters):
    if len(row) > MOST_LETTERS_OF_A_WORD:
        return False
    return all([letter < letters for letter in row])


def power(base, times):
    product = 1
    for turn in range(times):
        product = product * base
    return product


def fraction(upper, lower):
    # Euclid's way; with an upper number of 0 it leaves 0 and 1, as 0 is to be told.
    common = lower
    rest = upper
    while rest > 0:
        left = common % rest
        common = rest
        rest = left
    return [upper // common, lower // common]


def word_weight(weights, word):
    product = 1
    for letter in word:
        product = product * weights[letter]
    return product


def word_chance(weights, word):
    return fraction(word_weight(weights, word), power(sum(weights), len(word)))


def chances_compared(plain_weights, other_weights, word):
    # Each is taken times the other source's total, so that both are parts of the same
    # whole and compare as whole numbers.
    by_plain = word_weight(plain_weights, word) * power(sum(other_weights), len(word))
    by_other = word_weight(other_weights, word) * power(sum(plain_weights), len(word))
    return (by_plain, by_other)


def weights_of_all_words(weights, length):
    # The order hangs on how many letters there are alone, so the lists of two sources
    # tell of the same word at the same place.
    found = [1]
    for place in range(length):
        longer = []
        for product in found:
            for weight in weights:
                longer.append(product * weight)
        found = longer
    return found


def how_far_apart(plain_weights, other_weights, length):
    plain_whole = power(sum(plain_weights), length)
    other_whole = power(sum(other_weights), length)
    plain_words = weights_of_all_words(plain_weights, length)
    other_words = weights_of_all_words(other_weights, length)
    gap = 0
    for by_plain, by_other in zip(plain_words, other_words):
        gap = gap + abs(by_plain * other_whole - by_other * plain_whole)
    return fraction(gap, 2 * plain_whole * other_whole)
