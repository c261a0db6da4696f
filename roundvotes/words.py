"""Words, sets of bits, and answers.

A word and a set of bits are whole numbers: bit i counts 2 to the power of i.
An answer is a list that has, for each word in order, 1 for yes and 0 for no.
"""


def words_of(bits):
    return 1 << bits


def has_bit(word, bit):
    return (word >> bit) & 1


def turned(word, bit):
    return word ^ (1 << bit)


def bits_set(word):
    left = word
    found = 0
    while left > 0:
        found = found + left % 2
        left = left // 2
    return found


def together(word, numbers):
    """The sum of the numbers that stand for the word's set bits."""
    return sum([number for bit, number in enumerate(numbers) if has_bit(word, bit) == 1])


def no_to_all(bits):
    return [0] * words_of(bits)


def yes_to_those(bits, words):
    says = no_to_all(bits)
    for word in words:
        says[word] = 1
    return says


def yes_from(bits, least, numbers):
    return [1 if together(word, numbers) >= least else 0 for word in range(words_of(bits))]


def yes_to_odd(bits, chosen):
    return [bits_set(word & chosen) % 2 for word in range(words_of(bits))]


def yes_where_set(bits, bit):
    return [has_bit(word, bit) for word in range(words_of(bits))]


def opposite(says):
    return [1 - yes for yes in says]


def with_bit_turned(says, bit):
    return [says[turned(word, bit)] for word in range(len(says))]


def with_word_put(says, word, yes):
    other = list(says)
    other[word] = yes
    return other


def yes_words(says):
    return [word for word in range(len(says)) if says[word] == 1]


def falls_at(says, bits, word):
    """Whether a yes to the word becomes a no with one more bit set."""
    if says[word] == 0:
        return False
    more = [turned(word, bit) for bit in range(bits) if has_bit(word, bit) == 0]
    return any([says[larger] == 0 for larger in more])


def is_rising(says, bits):
    return not any([falls_at(says, bits, word) for word in range(len(says))])


def turns_with_all_bits(says):
    """Whether with all bits turned the answer to each word is the other one."""
    # With all bits turned the words count down where they counted up.
    return list(reversed(says)) == opposite(says)


def is_alike(says):
    """Whether words with as many bits set have one answer: that of the lowest of them."""
    return all([yes == says[words_of(bits_set(word)) - 1] for word, yes in enumerate(says)])
