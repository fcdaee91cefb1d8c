"""Told tests: they say "other" of words with so many or more of one letter."""

from toldapartdesk.words import fraction
from toldapartdesk.words import power
from toldapartdesk.words import with_one_total


def weights_by_count(weights, letter, length):
    # At each place stand all words together that have the letter so many times.
    drawn = weights[letter]
    not_drawn = sum(weights) - drawn
    found = [1]
    for place in range(length):
        one_more = [0] + [weight * drawn for weight in found]
        no_more = [weight * not_drawn for weight in found] + [0]
        found = [first + second for first, second in zip(one_more, no_more)]
    return found


def chance_of_alarm(plain_weights, letter, least, length):
    by_count = weights_by_count(plain_weights, letter, length)
    return fraction(sum(by_count[least:]), power(sum(plain_weights), length))


def chance_of_miss(other_weights, letter, least, length):
    by_count = weights_by_count(other_weights, letter, length)
    return fraction(sum(by_count[:least]), power(sum(other_weights), length))


def best_told_test(plain_weights, other_weights, length):
    level = with_one_total(plain_weights, other_weights)
    whole = power(sum(level[0]), length)
    # The first test, of letter 0 and 0, says "other" of all words: it's wrong of each harmless one.
    best_letter = 0
    best_least = 0
    fewest = whole
    for letter in range(len(plain_weights)):
        by_plain = weights_by_count(level[0], letter, length)
        by_other = weights_by_count(level[1], letter, length)
        for least in range(length + 2):
            wrong = sum(by_plain[least:]) + sum(by_other[:least])
            # Of tests that err alike the first one stays.
            if wrong < fewest:
                best_letter = letter
                best_least = least
                fewest = wrong
    return [best_letter, best_least] + fraction(fewest, 2 * whole)
