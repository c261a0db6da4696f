"""Votes: an order of each voter, and what comes of them by an answer.

The comparisons are a with b, b with c, c with a, and a vote makes a word for
each. What comes of a vote is a tuple that has, for each comparison, 1 if the
first thing is ahead and 0 if the second is.
"""

# By the orders' numbers, abc, acb, bac, bca, cab, cba: whether a voter who puts
# the things so has the first one ahead, and which thing is the best.
AHEAD = ((1, 1, 0), (1, 0, 0), (0, 1, 0), (0, 1, 1), (1, 0, 1), (0, 0, 1))
BEST = (0, 0, 1, 1, 2, 2)

THINGS = 3
ORDERS = 6


def is_vote(numbers, bits):
    return len(numbers) == bits and all([number < ORDERS for number in numbers])


def with_voter(three, bit, order):
    """The comparisons' three words, with one more voter's order in them."""
    return [word + (ahead << bit) for word, ahead in zip(three, AHEAD[order])]


def compared(says, three):
    return tuple([says[word] for word in three])


def outcome(says, vote):
    three = [0, 0, 0]
    for bit, order in enumerate(vote):
        three = with_voter(three, bit, order)
    return compared(says, three)


def words_of_all_votes(bits):
    """The three words of every vote; the votes rise, and bit 0's order counts most."""
    votes = [[0, 0, 0]]
    for bit in range(bits):
        longer = []
        for three in votes:
            longer.extend([with_voter(three, bit, order) for order in range(ORDERS)])
        votes = longer
    return votes


def all_outcomes(says, bits):
    return [compared(says, three) for three in words_of_all_votes(bits)]


def is_round(came):
    return sum(came) == 0 or sum(came) == THINGS


def order_of(came):
    """The order that comes, where no round does: one who puts the things so compares alike."""
    return AHEAD.index(came)


def winner_of(came):
    return BEST[order_of(came)]


def rounds_among(outcomes):
    return len([came for came in outcomes if is_round(came)])


def wins_among(outcomes, thing):
    return len([came for came in outcomes if not is_round(came) and winner_of(came) == thing])


def vote_at(place, bits):
    """The vote at a place of all votes, which stand there as words_of_all_votes has them."""
    vote = []
    left = place
    while len(vote) < bits:
        vote.insert(0, left % ORDERS)
        left = left // ORDERS
    return vote


def first_round(outcomes, bits):
    """The first vote by which a round comes; an empty list if by none."""
    for place, came in enumerate(outcomes):
        if is_round(came):
            return vote_at(place, bits)
    return []
