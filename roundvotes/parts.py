"""Fractions, the parts of sets, and levels, reckoned in whole numbers."""

from roundvotes.words import bits_set


def common_of(one, other):
    """The greatest number that divides both."""
    larger = one
    smaller = other
    while smaller > 0:
        rest = larger % smaller
        larger = smaller
        smaller = rest
    return larger


def fraction(upper, lower):
    common = common_of(upper, lower)
    return [upper // common, lower // common]


def sign(chosen, word, yes):
    return 1 if bits_set(word & chosen) % 2 == yes else -1


def sign_sum(says, chosen):
    """The part of the chosen set, times how many words there are: so it stays whole."""
    return sum([sign(chosen, word, yes) for word, yes in enumerate(says)])


def level_sums(says, bits):
    """The levels, times how many words there are, times that again."""
    sums = [0] * (bits + 1)
    for chosen in range(len(says)):
        level = bits_set(chosen)
        sums[level] = sums[level] + sign_sum(says, chosen) ** 2
    return sums


def level_fractions(says, bits):
    fractions = []
    for total in level_sums(says, bits):
        fractions.extend(fraction(total, len(says) ** 2))
    return fractions


def no_round_by_parts(says, bits):
    """3 by 4, less 3 by 4 times the levels together, each times less 1 by 3 for each bit."""
    sums = level_sums(says, bits)
    upper = sums[0]
    lower = len(says) ** 2
    for level in range(1, bits + 1):
        # Both grow by 3 with each level, so that the thirds stay whole.
        upper = upper * 3 + (sums[level] if level % 2 == 0 else -sums[level])
        lower = lower * 3
    return fraction(3 * (lower - upper), 4 * lower)
