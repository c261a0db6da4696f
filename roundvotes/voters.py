"""The calls on one object: read from a list of whole numbers, answered one by one.

Each def of a call takes the object, the call's whole numbers and its row, and
gives back the list of numbers that the call answers.
"""

from roundvotes.parts import fraction, level_fractions, no_round_by_parts
from roundvotes.votes import THINGS, all_outcomes, first_round, is_round, is_vote, order_of, outcome
from roundvotes.votes import rounds_among, winner_of, wins_among
from roundvotes.words import is_alike, is_rising, no_to_all, opposite, turns_with_all_bits
from roundvotes.words import with_bit_turned, with_word_put, words_of
from roundvotes.words import yes_from, yes_to_odd, yes_to_those, yes_where_set, yes_words

NO_SUCH_BIT = -2
NOT_BEGUN = -11
NOT_RIGHT = -22
THERE_IS_NONE = -33

MOST_BITS = 4
MOST_TOLD = 32
MOST_FOR_A_BIT = 9

BEGIN = 0


class Voters:
    def __init__(self):
        # No begin grants 0 bits, so 0 marks an object that has not begun.
        self.bits = 0
        self.says = []


def is_word(voters, number):
    return number < words_of(voters.bits)


def take(voters, says):
    voters.says = says
    return [sum(says)]


def begin(voters, given, row):
    bits = given[0]
    if bits < 1 or bits > MOST_BITS:
        return [NOT_RIGHT]
    voters.bits = bits
    voters.says = no_to_all(bits)
    return [0]


def told(voters, given, row):
    if len(row) > MOST_TOLD or not all([is_word(voters, number) for number in row]):
        return [NOT_RIGHT]
    return take(voters, yes_to_those(voters.bits, row))


def least(voters, given, row):
    if len(row) != voters.bits or max(row) > MOST_FOR_A_BIT:
        return [NOT_RIGHT]
    return take(voters, yes_from(voters.bits, given[0], row))


def odd(voters, given, row):
    # Sets are numbered like words, so the same numbers are sets.
    if not is_word(voters, given[0]):
        return [NOT_RIGHT]
    return take(voters, yes_to_odd(voters.bits, given[0]))


def own_bit(voters, given, row):
    if given[0] >= voters.bits:
        return [NO_SUCH_BIT]
    return take(voters, yes_where_set(voters.bits, given[0]))


def other_one(voters, given, row):
    return take(voters, opposite(voters.says))


def turn(voters, given, row):
    if given[0] >= voters.bits:
        return [NO_SUCH_BIT]
    return take(voters, with_bit_turned(voters.says, given[0]))


def put(voters, given, row):
    if not is_word(voters, given[0]) or given[1] > 1:
        return [NOT_RIGHT]
    return take(voters, with_word_put(voters.says, given[0], given[1]))


def ask(voters, given, row):
    if not is_word(voters, given[0]):
        return [NOT_RIGHT]
    return [voters.says[given[0]]]


def mean(voters, given, row):
    return [0] + fraction(sum(voters.says), len(voters.says))


def levels(voters, given, row):
    return [voters.bits + 1] + level_fractions(voters.says, voters.bits)


def rising(voters, given, row):
    return [1 if is_rising(voters.says, voters.bits) else 0]


def state(voters, given, row):
    return [voters.bits] + yes_words(voters.says)


def vote(voters, given, row):
    if not is_vote(row, voters.bits):
        return [NOT_RIGHT]
    came = outcome(voters.says, row)
    return [1 if is_round(came) else 0] + list(came)


def winner(voters, given, row):
    if not is_vote(row, voters.bits):
        return [NOT_RIGHT]
    came = outcome(voters.says, row)
    return [THERE_IS_NONE] if is_round(came) else [winner_of(came)]


def order(voters, given, row):
    if not is_vote(row, voters.bits):
        return [NOT_RIGHT]
    came = outcome(voters.says, row)
    return [THERE_IS_NONE] if is_round(came) else [order_of(came)]


def rounds(voters, given, row):
    return [rounds_among(all_outcomes(voters.says, voters.bits))]


def noround(voters, given, row):
    outcomes = all_outcomes(voters.says, voters.bits)
    return [0] + fraction(len(outcomes) - rounds_among(outcomes), len(outcomes))


def byparts(voters, given, row):
    return [0] + no_round_by_parts(voters.says, voters.bits)


def isodd(voters, given, row):
    return [1 if turns_with_all_bits(voters.says) else 0]


def alike(voters, given, row):
    return [1 if is_alike(voters.says) else 0]


def whose(voters, given, row):
    for number in range(voters.bits):
        own = yes_where_set(voters.bits, number)
        if voters.says == own:
            return [number, 1]
        if voters.says == opposite(own):
            return [number, 0]
    return [THERE_IS_NONE]


def first(voters, given, row):
    found = first_round(all_outcomes(voters.says, voters.bits), voters.bits)
    return [THERE_IS_NONE] if len(found) == 0 else [voters.bits] + found


def agreed(voters, given, row):
    return [voters.says[len(voters.says) - 1], voters.says[0]]


def wins(voters, given, row):
    if given[0] >= THINGS:
        return [NOT_RIGHT]
    return [wins_among(all_outcomes(voters.says, voters.bits), given[0])]


# By the calls' numbers: the def, how many whole numbers stand behind the number,
# and which calls have a row behind those.
DEFS = (begin, told, least, odd, own_bit, other_one, turn, put, ask, mean, levels, rising, state,
        vote, winner, order, rounds, noround, byparts, isodd, alike, whose, first, agreed, wins)
WHOLE_NUMBERS = (1, 0, 1, 1, 1, 0, 1, 2, 1, 0, 0, 0, 0, 0, 0, 0, 0, 0, 0, 0, 0, 0, 0, 0, 1)
WITH_ROW = (1, 2, 13, 14, 15)


def answer(voters, call, given, row):
    if voters.bits == 0 and call != BEGIN:
        return [NOT_BEGUN]
    answering = DEFS[call]
    return answering(voters, given, row)


def row_at(calls, place):
    return calls[place + 1:place + 1 + calls[place]]


def answers(calls):
    voters = Voters()
    answered = []
    place = 0
    while place < len(calls):
        call = calls[place]
        row_place = place + 1 + WHOLE_NUMBERS[call]
        given = calls[place + 1:row_place]
        row = []
        place = row_place
        if call in WITH_ROW:
            row = row_at(calls, row_place)
            place = row_place + 1 + len(row)
        numbers = answer(voters, call, given, row)
        answered.append(len(numbers))
        answered.extend(numbers)
    return answered
