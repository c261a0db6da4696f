"""The calls that tell of all votes: rounds, noround, byparts, first, wins."""

import math
import unittest
from fractions import Fraction

from helper import LARGEST, all_votes, last, model_by_parts, model_outcomes, model_round, model_winner
from helper import one_bits_answers, run, telling_answers, tell, words

CALLS = [("rounds",), ("noround",), ("byparts",), ("first",), ("wins", 0), ("wins", 1), ("wins", 2)]


class Told(unittest.TestCase):
    def told(self, n, yes, rounds, noround, first, wins):
        replies = tell(n, yes, *CALLS, ("state",))
        wanted = [[rounds], [0] + noround, [0] + noround, first, [wins], [wins], [wins], [n] + yes]
        self.assertEqual(replies, wanted, (n, yes))


class Corners(Told):
    def test_no_to_all_is_always_a_round(self):
        for n in [1, 2, 3, 4]:
            self.told(n, [], 6 ** n, [0, 1], [n] + [0] * n, 0)

    def test_yes_to_all_too(self):
        for n in [1, 2, 3, 4]:
            self.told(n, words(n), 6 ** n, [0, 1], [n] + [0] * n, 0)

    def test_one_voter(self):
        self.told(1, [1], 0, [1, 1], [-33], 2)
        self.told(1, [0], 0, [1, 1], [-33], 2)
        self.told(1, [], 6, [0, 1], [1, 0], 0)
        self.told(1, [0, 1], 6, [0, 1], [1, 0], 0)

    def test_one_voters_own_and_the_opposite(self):
        for n in [1, 2, 3, 4]:
            for i, own, yes in one_bits_answers(n):
                self.told(n, yes, 0, [1, 1], [-33], 2 * 6 ** (n - 1))

    def test_the_most_of_three(self):
        # abc, bca, cab in any order of voters, or acb, bac, cba: twice six.
        self.told(3, [3, 5, 6, 7], 12, [17, 18], [3, 0, 3, 4], 68)

    def test_the_most_of_four_ties_no(self):
        # Levels by 256: 36, 144, 24, 16, 36; so 3 by 4, and 3 by 4 of 1 by 27.
        self.told(4, [7, 11, 13, 14, 15], 288, [7, 9], [4, 0, 0, 5, 5], 336)

    def test_all_must_say_yes(self):
        # All agree that one is ahead of the next by 3 times 3 to the n votes, of two such by 3.
        self.told(2, [3], 12, [2, 3], [2, 0, 5], 8)
        self.told(3, [7], 138, [13, 36], [3, 0, 0, 5], 26)
        self.told(4, [15], 1056, [5, 27], [4, 0, 0, 0, 5], 80)

    def test_an_odd_number_must_say_yes(self):
        # The part of all bits alone isn't 0, so 3 by 4 is taken times 8 by 9, 28 by 27, 80 by 81. Where all
        # of an even number put one order, none or all are ahead: an even number, so a round, all no.
        self.told(2, [1, 2], 12, [2, 3], [2, 0, 0], 8)
        self.told(3, [1, 2, 4, 7], 48, [7, 9], [3, 0, 1, 2], 56)
        self.told(4, [1, 2, 4, 7, 8, 11, 13, 14], 336, [20, 27], [4, 0, 0, 0, 0], 320)


class First(unittest.TestCase):
    def test_where_two_differ_first_the_lesser_is_first(self):
        for n in [2, 3, 4]:
            for yes in telling_answers(n):
                came = model_outcomes(n, yes)
                found = [vote for vote, three in zip(all_votes(n), came, strict=True) if model_round(three)]
                wanted = [n] + min(found) if found else [-33]
                self.assertEqual(tell(n, yes, ("first",)), [wanted], (n, yes))

    def test_by_none(self):
        self.assertEqual(last(("begin", 4), ("bit", 3), ("first",)), [-33])
        self.assertEqual(last(("begin", 4), ("bit", 3), ("not",), ("first",)), [-33])

    def test_a_round_comes_by_it(self):
        for n in [2, 3, 4]:
            for yes in telling_answers(n)[::3]:
                reply = tell(n, yes, ("first",))[0]
                if reply != [-33]:
                    self.assertEqual(tell(n, yes, ("vote", reply[1:]))[0][0], 1)


class ByTheDocumentsWords(unittest.TestCase):
    def told_fraction(self, reply, wanted):
        zero, upper, lower = reply
        self.assertEqual((zero, Fraction(upper, lower)), (0, wanted))
        self.assertGreaterEqual(lower, 1)
        self.assertEqual(math.gcd(upper, lower), 1)

    def test_rounds_noround_and_wins(self):
        for n in [1, 2, 3, 4]:
            for yes in telling_answers(n):
                came = model_outcomes(n, yes)
                rounds = sum(model_round(three) for three in came)
                winners = [model_winner(three) for three in came]
                replies = tell(n, yes, ("rounds",), ("noround",), ("wins", 0), ("wins", 1), ("wins", 2))
                self.assertEqual(replies[0], [rounds], (n, yes))
                self.told_fraction(replies[1], Fraction(6 ** n - rounds, 6 ** n))
                self.assertEqual(replies[2:], [[winners.count(k)] for k in range(3)], (n, yes))

    def test_byparts(self):
        for n in [1, 2, 3, 4]:
            for yes in telling_answers(n):
                self.told_fraction(tell(n, yes, ("byparts",))[0], model_by_parts(n, yes))


class Wins(unittest.TestCase):
    def test_a_thing_above_two(self):
        for n in [1, 2, 3, 4]:
            for k in [3, 4, 5, 6, LARGEST]:
                replies = run(("begin", n), ("bit", 0), ("wins", k), ("state",), ("wins", 2))
                self.assertEqual(replies[2], [-22], (n, k))
                self.assertEqual(replies[3], [n] + [x for x in words(n) if x % 2 == 1])
                self.assertEqual(replies[4], [2 * 6 ** (n - 1)])

    def test_also_where_none_wins(self):
        self.assertEqual(run(("begin", 2), ("wins", 2), ("wins", 3)), [[0], [0], [-22]])


if __name__ == "__main__":
    unittest.main()
