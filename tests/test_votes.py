"""The calls that tell of one vote: vote, winner, order."""

import unittest

from helper import LARGEST, all_votes, last, model_compared, model_order, model_round, model_winner, own_words
from helper import other_words, run, some_answers, tell, words

MOST_OF_THREE = [3, 5, 6, 7]
MOST_OF_FOUR = [7, 11, 13, 14, 15]

# abc, acb, bac, bca, cab, cba: is a ahead of b, b of c, c of a; the best; the same things backwards.
BY_HAND = {
    0: ([1, 1, 0], 0, 5), 1: ([1, 0, 0], 0, 3), 2: ([0, 1, 0], 1, 4),
    3: ([0, 1, 1], 1, 1), 4: ([1, 0, 1], 2, 2), 5: ([0, 0, 1], 2, 0),
}


class OneVote(unittest.TestCase):
    def came(self, n, yes, row, vote, winner, order):
        replies = tell(n, yes, ("vote", row), ("winner", row), ("order", row), ("state",))
        self.assertEqual(replies, [vote, [winner], [order], [n] + yes], (n, yes, row))


class OneVoter(OneVote):
    def test_its_own_order_comes(self):
        for row, (compared, best, backwards) in BY_HAND.items():
            self.came(1, [1], [row], [0] + compared, best, row)

    def test_of_the_opposite_the_order_comes_backwards(self):
        for row, (compared, best, backwards) in BY_HAND.items():
            self.came(1, [0], [row], [0] + [1 - x for x in compared], BY_HAND[backwards][1], backwards)

    def test_no_to_all_and_yes_to_all(self):
        for row in range(6):
            self.came(1, [], [row], [1, 0, 0, 0], -33, -33)
            self.came(1, [0, 1], [row], [1, 1, 1, 1], -33, -33)


class Corners(OneVote):
    def test_no_to_all_is_always_a_round(self):
        for n in [1, 2, 3]:
            for row in all_votes(n):
                self.came(n, [], row, [1, 0, 0, 0], -33, -33)
        for row in all_votes(4)[::7]:
            self.came(4, [], row, [1, 0, 0, 0], -33, -33)

    def test_one_voters_own(self):
        for n in [2, 3, 4]:
            for i in range(n):
                for row in all_votes(n)[::n * n - 3]:
                    compared, best, backwards = BY_HAND[row[i]]
                    self.came(n, own_words(n, i), row, [0] + compared, best, row[i])

    def test_the_opposite_of_it(self):
        for n in [2, 3, 4]:
            for i in range(n):
                for row in all_votes(n)[::n * n - 3]:
                    backwards = BY_HAND[row[i]][2]
                    compared, best, order = BY_HAND[backwards]
                    self.came(n, other_words(n, own_words(n, i)), row, [0] + compared, best, backwards)

    def test_the_most_of_three(self):
        self.came(3, MOST_OF_THREE, [0, 3, 4], [1, 1, 1, 1], -33, -33)
        self.came(3, MOST_OF_THREE, [4, 0, 3], [1, 1, 1, 1], -33, -33)
        self.came(3, MOST_OF_THREE, [1, 2, 5], [1, 0, 0, 0], -33, -33)
        self.came(3, MOST_OF_THREE, [0, 3, 2], [0, 0, 1, 0], 1, 2)
        self.came(3, MOST_OF_THREE, [0, 0, 5], [0, 1, 1, 0], 0, 0)
        self.came(3, MOST_OF_THREE, [5, 1, 4], [0, 1, 0, 1], 2, 4)

    def test_the_most_of_four_ties_no(self):
        self.came(4, MOST_OF_FOUR, [0, 0, 5, 5], [1, 0, 0, 0], -33, -33)
        self.came(4, MOST_OF_FOUR, [0, 0, 0, 5], [0, 1, 1, 0], 0, 0)
        self.came(4, MOST_OF_FOUR, [0, 3, 4, 0], [0, 1, 1, 0], 0, 0)
        self.came(4, MOST_OF_FOUR, [3, 4, 3, 4], [0, 0, 0, 1], 2, 5)
        self.came(4, MOST_OF_FOUR, [2, 2, 3, 0], [0, 0, 1, 0], 1, 2)

    def test_all_must_say_yes(self):
        self.came(2, [3], [0, 5], [1, 0, 0, 0], -33, -33)
        self.came(2, [3], [0, 1], [0, 1, 0, 0], 0, 1)
        self.came(3, [7], [3, 4, 5], [0, 0, 0, 1], 2, 5)
        self.came(4, [15], [0, 0, 0, 3], [0, 0, 1, 0], 1, 2)
        self.came(4, [15], [1, 1, 1, 2], [1, 0, 0, 0], -33, -33)

    def test_one_order_by_all(self):
        for n in [1, 2, 3, 4]:
            top = 2 ** n - 1
            for row, (compared, best, backwards) in BY_HAND.items():
                self.came(n, [top], [row] * n, [0] + compared, best, row)
                self.came(n, words(n)[:-1], [row] * n, [0] + [1 - x for x in compared],
                          BY_HAND[backwards][1], backwards)
                self.came(n, words(n)[1:-1], [row] * n, [1, 0, 0, 0], -33, -33)
                self.came(n, [0, top], [row] * n, [1, 1, 1, 1], -33, -33)

    def test_each_voter_is_the_bit_of_its_place(self):
        # Yes where voter 0 stands alone, then where voter 2 does, then voter 3.
        self.came(3, [1], [0, 5, 5], [0, 1, 1, 0], 0, 0)
        self.came(3, [1], [5, 5, 0], [1, 0, 0, 0], -33, -33)
        self.came(3, [4], [5, 5, 0], [0, 1, 1, 0], 0, 0)
        self.came(4, [8], [5, 5, 5, 3], [0, 0, 1, 0], 1, 2)


class ByTheDocumentsWords(OneVote):
    def check(self, n, yes, votes):
        calls = []
        wanted = []
        for vote in votes:
            came = model_compared(yes, vote)
            a_round = model_round(came)
            calls += [("vote", vote), ("winner", vote), ("order", vote)]
            wanted += [[1 if a_round else 0] + came, [-33 if a_round else model_winner(came)],
                       [-33 if a_round else model_order(came)]]
        self.assertEqual(tell(n, yes, *calls), wanted, (n, yes))

    def test_every_answer_of_one_and_two_voters(self):
        for n in [1, 2]:
            for yes in some_answers(n):
                self.check(n, yes, all_votes(n))

    def test_three_and_four_voters(self):
        for n, step in [(3, 13), (4, 83)]:
            for number, yes in enumerate(some_answers(n)):
                self.check(n, yes, all_votes(n)[number % step::step])
        self.check(3, MOST_OF_THREE, all_votes(3))
        self.check(4, MOST_OF_FOUR, all_votes(4))


class NotRight(unittest.TestCase):
    def test_too_few_too_many_or_none(self):
        for n in [1, 2, 3, 4]:
            for many in [0, n - 1, n + 1, 2 * n, 255]:
                for number in [0, 5]:
                    for call in ["vote", "winner", "order"]:
                        for yes in [[], own_words(n, 0)]:
                            self.assertEqual(tell(n, yes, (call, [number] * many)), [[-22]], (n, call, many))

    def test_a_number_above_five(self):
        for n in [1, 2, 3, 4]:
            for bad in [6, 7, 255, LARGEST]:
                for place in range(n):
                    row = [0] * n
                    row[place] = bad
                    for call in ["vote", "winner", "order"]:
                        for yes in [[], own_words(n, 0)]:
                            self.assertEqual(tell(n, yes, (call, row)), [[-22]], (n, call, row))

    def test_it_goes_ahead_of_the_round(self):
        for call in ["winner", "order"]:
            self.assertEqual(last(("begin", 2), (call, [0, 0])), [-33])
            self.assertEqual(last(("begin", 2), (call, [0, 6])), [-22])
            self.assertEqual(last(("begin", 2), (call, [0])), [-22])

    def test_the_voters_are_those_of_the_last_begin(self):
        replies = run(("begin", 3), ("bit", 0), ("vote", [0, 1, 2]), ("begin", 1), ("bit", 0), ("vote", [0, 1, 2]),
                      ("vote", [2]), ("begin", 7), ("order", [5]))
        self.assertEqual(replies[2:], [[0, 1, 1, 0], [0], [1], [-22], [0, 0, 1, 0], [-22], [5]])


if __name__ == "__main__":
    unittest.main()
