"""What the tests share: calls by name, answers cut apart, and a plain model."""

from fractions import Fraction

from roundvotes.voters import answers

LARGEST = 4294967295

NUMBERS = {
    "begin": 0, "told": 1, "least": 2, "odd": 3, "bit": 4, "not": 5, "turn": 6,
    "set": 7, "ask": 8, "mean": 9, "levels": 10, "rising": 11, "state": 12,
    "vote": 13, "winner": 14, "order": 15, "rounds": 16, "noround": 17,
    "byparts": 18, "isodd": 19, "alike": 20, "whose": 21, "first": 22,
    "agreed": 23, "wins": 24,
}


def line(*calls):
    """The list that is handed in for calls such as ("least", 2, [1, 1, 1])."""
    numbers = []
    for call in calls:
        numbers.append(NUMBERS[call[0]])
        for argument in call[1:]:
            if isinstance(argument, list):
                numbers.append(len(argument))
                numbers.extend(argument)
            else:
                numbers.append(argument)
    return numbers


def cut(given_back):
    """One list for each call's answer."""
    pieces = []
    place = 0
    while place < len(given_back):
        size = given_back[place]
        piece = given_back[place + 1:place + 1 + size]
        assert len(piece) == size, given_back
        pieces.append(piece)
        place += 1 + size
    return pieces


def run(*calls):
    assert len(calls) <= 30
    pieces = cut(answers(line(*calls)))
    assert len(pieces) == len(calls), pieces
    return pieces


def last(*calls):
    return run(*calls)[-1]


def words(n):
    return list(range(2 ** n))


def bits_of(number):
    return {i for i in range(40) if number & 2 ** i}


def all_answers(n):
    """Every answer to words of n bits, as the sorted words it says yes to."""
    for mask in range(2 ** 2 ** n):
        yield sorted(bits_of(mask))


def some_answers(n):
    """All answers for few bits; a spread of them for four."""
    if n < 4:
        yield from all_answers(n)
        return
    for mask in [0, 1, 32768, 65535, 43690, 21845, 59520, 65152, 38550, 26985]:
        yield sorted(bits_of(mask))
    for step in range(150):
        yield sorted(bits_of(step * 40503 % 65536))


def model_levels(n, yes):
    """The levels by the document's words, set by set, with fractions."""
    found = [Fraction(0)] * (n + 1)
    for chosen in words(n):
        signs = []
        for word in words(n):
            even = len(bits_of(word) & bits_of(chosen)) % 2 == 0
            signs.append(1 if even != (word in yes) else -1)
        found[len(bits_of(chosen))] += Fraction(sum(signs), len(signs)) ** 2
    return found


def model_rising(n, yes):
    for word in yes:
        for larger in words(n):
            if bits_of(word) < bits_of(larger) and larger not in yes:
                return 0
    return 1
