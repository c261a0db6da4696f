"""Fractions, the parts of sets, and levels, reckoned in whole numbers."""

from roundvotes.words import bits_set


def common_of(one, other):
    """The greatest number that divides both."""
    larger = one
    smaller = other
    while smaller > 0:
        rest = larger % smaller
        larger = smaller
        smaller = rest
    return larger


def fraction(upper, lower):
    common = common_of(upper, lower)
    return [upper // common, lower // common]


def sign(chosen, word, yes):
    return 1 if bits_set(word & chosen) % 2 == yes else -1


def sign_sum(says, chosen):
    """The part of the chosen set, times how many words there are: so it stays whole."""
    return sum([sign(chosen, word, yes) for word, yes in enumerate(says)])


def level_fractions(says, bits):
    sums = [0] * (bits + 1)
    for chosen in range(len(says)):
        level = bits_set(chosen)
        sums[level] = sums[level] + sign_sum(says, chosen) ** 2
    fractions = []
    for total in sums:
        fractions.extend(fraction(total, len(says) ** 2))
    return fractions
