"""What the tests share: calls by name, answers cut apart, and a plain model."""

import functools
import itertools
from fractions import Fraction

from roundvotes.voters import answers

LARGEST = 4294967295

NUMBERS = {
    "begin": 0, "told": 1, "least": 2, "odd": 3, "bit": 4, "not": 5, "turn": 6,
    "set": 7, "ask": 8, "mean": 9, "levels": 10, "rising": 11, "state": 12,
    "vote": 13, "winner": 14, "order": 15, "rounds": 16, "noround": 17,
    "byparts": 18, "isodd": 19, "alike": 20, "whose": 21, "first": 22,
    "agreed": 23, "wins": 24,
}


def line(*calls):
    """The list that is handed in for calls such as ("least", 2, [1, 1, 1])."""
    numbers = []
    for call in calls:
        numbers.append(NUMBERS[call[0]])
        for argument in call[1:]:
            if isinstance(argument, list):
                numbers.append(len(argument))
                numbers.extend(argument)
            else:
                numbers.append(argument)
    return numbers


def cut(given_back):
    """One list for each call's answer."""
    pieces = []
    place = 0
    while place < len(given_back):
        size = given_back[place]
        piece = given_back[place + 1:place + 1 + size]
        assert len(piece) == size, given_back
        pieces.append(piece)
        place += 1 + size
    return pieces


def run(*calls):
    assert len(calls) <= 30
    pieces = cut(answers(line(*calls)))
    assert len(pieces) == len(calls), pieces
    return pieces


def last(*calls):
    return run(*calls)[-1]


def words(n):
    return list(range(2 ** n))


def bits_of(number):
    return {i for i in range(40) if number & 2 ** i}


def all_answers(n):
    """Every answer to words of n bits, as the sorted words it says yes to."""
    for mask in range(2 ** 2 ** n):
        yield sorted(bits_of(mask))


def some_answers(n):
    """All answers for few bits; a spread of them for four."""
    if n < 4:
        yield from all_answers(n)
        return
    for mask in [0, 1, 32768, 65535, 43690, 21845, 59520, 65152, 38550, 26985]:
        yield sorted(bits_of(mask))
    for step in range(150):
        yield sorted(bits_of(step * 40503 % 65536))


def model_levels(n, yes):
    """The levels by the document's words, set by set, with fractions."""
    found = [Fraction(0)] * (n + 1)
    for chosen in words(n):
        found[len(bits_of(chosen))] += model_part(n, yes, chosen) ** 2
    return found


def model_rising(n, yes):
    for word in yes:
        for larger in words(n):
            if bits_of(word) < bits_of(larger) and larger not in yes:
                return 0
    return 1


ORDERS = ["abc", "acb", "bac", "bca", "cab", "cba"]
THINGS = "abc"
PAIRS = ["ab", "bc", "ca"]


def all_votes(n):
    """Every vote, the first one first."""
    return [list(vote) for vote in itertools.product(range(6), repeat=n)]


def model_word(vote, pair):
    """The word of the voters who put the pair's first thing ahead of its second."""
    ahead = [i for i, o in enumerate(vote) if ORDERS[o].index(pair[0]) < ORDERS[o].index(pair[1])]
    return sum(2 ** i for i in ahead)


@functools.cache
def model_words(n):
    return [tuple(model_word(vote, pair) for pair in PAIRS) for vote in all_votes(n)]


def model_outcomes(n, yes):
    """For each vote in turn, for each comparison, 1 if the first is ahead, else 0."""
    return [[1 if word in yes else 0 for word in three] for three in model_words(n)]


def model_compared(yes, vote):
    return [1 if model_word(vote, pair) in yes else 0 for pair in PAIRS]


def model_round(came):
    return came in ([1, 1, 1], [0, 0, 0])


def ahead_of(came):
    """Which thing is ahead of which, each as a text of two things."""
    return {pair if first == 1 else pair[::-1] for pair, first in zip(PAIRS, came, strict=True)}


def model_winner(came):
    """The thing that is ahead of both others; None where a round comes."""
    for k, thing in enumerate(THINGS):
        if all(thing + other in ahead_of(came) for other in THINGS if other != thing):
            return k
    return None


def model_order(came):
    """The order in which each thing is ahead of those behind it; None where a round comes."""
    for number, things in enumerate(ORDERS):
        if all(x + y in ahead_of(came) for x, y in itertools.combinations(things, 2)):
            return number
    return None


def model_part(n, yes, chosen):
    signs = []
    for word in words(n):
        even = len(bits_of(word) & bits_of(chosen)) % 2 == 0
        signs.append(1 if even != (word in yes) else -1)
    return Fraction(sum(signs), len(signs))


def model_by_parts(n, yes):
    together = Fraction(0)
    for chosen in words(n):
        together += model_part(n, yes, chosen) ** 2 * Fraction(-1, 3) ** len(bits_of(chosen))
    return Fraction(3, 4) - Fraction(3, 4) * together


def own_words(n, i):
    return [x for x in words(n) if i in bits_of(x)]


def other_words(n, yes):
    return [x for x in words(n) if x not in yes]


def one_bits_answers(n):
    """Each bit's own answer and its opposite: the bit, 1 or 0, the words."""
    for i in range(n):
        yield i, 1, own_words(n, i)
        yield i, 0, other_words(n, own_words(n, i))


def odd_answers(n):
    """Every answer that all bits turned turn: of a word and its opposite one is yes."""
    pairs = [(x, 2 ** n - 1 - x) for x in range(2 ** (n - 1))]
    for choice in itertools.product(*pairs):
        yield sorted(choice)


def alike_answers(n):
    """Every answer that hangs on how many bits are set alone."""
    for sizes in range(2 ** (n + 1)):
        yield [x for x in words(n) if len(bits_of(x)) in bits_of(sizes)]


def telling_answers(n):
    """Answers of every kind that the calls tell of, near misses of them, and a spread of others."""
    found = list(some_answers(n)) + list(alike_answers(n)) + list(odd_answers(n))[::5]
    for i, own, yes in one_bits_answers(n):
        found.append(yes)
        for x in words(n):
            found.append(sorted(set(yes) ^ {x}))
    return [list(yes) for yes in sorted({tuple(yes) for yes in found})]


def tell(n, yes, *calls):
    """What the calls answer of the answer that says yes to these words, in as many lines as it takes."""
    found = []
    for start in range(0, len(calls), 28):
        replies = run(("begin", n), ("told", yes), *calls[start:start + 28])
        assert replies[:2] == [[0], [len(yes)]], replies
        found.extend(replies[2:])
    return found
