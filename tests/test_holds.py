"""What holds: the third promise, over many answers, told by the calls alone."""

import unittest

from helper import all_votes, odd_answers, telling_answers, tell


def votes_told(n, yes, call):
    return tell(n, yes, *[(call, vote) for vote in all_votes(n)])


class WhatHolds(unittest.TestCase):
    def test_no_round_ever_comes_just_where_it_is_one_bits(self):
        for n in [1, 2, 3, 4]:
            one_bits = 0
            for yes in telling_answers(n):
                rounds, noround, whose, first = tell(n, yes, ("rounds",), ("noround",), ("whose",), ("first",))
                no_ones = whose == [-33]
                self.assertEqual(rounds != [0], no_ones, (n, yes))
                self.assertEqual(noround != [0, 1, 1], no_ones, (n, yes))
                self.assertEqual(first != [-33], no_ones, (n, yes))
                one_bits += 0 if no_ones else 1
            self.assertEqual(one_bits, 2 * n)

    def test_how_likely_none_does_is_as_told_by_parts(self):
        for n in [1, 2, 3, 4]:
            for yes in telling_answers(n):
                noround, byparts = tell(n, yes, ("noround",), ("byparts",))
                self.assertEqual(noround, byparts, (n, yes))

    def test_each_thing_wins_as_often(self):
        for n in [1, 2, 3, 4]:
            for yes in telling_answers(n):
                rounds, a, b, c = tell(n, yes, ("rounds",), ("wins", 0), ("wins", 1), ("wins", 2))
                self.assertEqual((a, b), (b, c), (n, yes))
                self.assertEqual(rounds[0] + 3 * a[0], 6 ** n, (n, yes))

    def test_if_all_bits_turned_turn_it_each_order_comes_as_often(self):
        for n, step in [(1, 1), (2, 1), (3, 1), (4, 37)]:
            for yes in list(odd_answers(n))[::step]:
                told = votes_told(n, yes, "order")
                isodd, rounds = tell(n, yes, ("isodd",), ("rounds",))
                self.assertEqual(isodd, [1], (n, yes))
                self.assertEqual(told.count([-33]), rounds[0], (n, yes))
                for number in range(6):
                    self.assertEqual(6 * told.count([number]), 6 ** n - rounds[0], (n, yes, number))

    def test_without_a_round_an_order_comes_whose_first_thing_wins(self):
        best = {0: 0, 1: 0, 2: 1, 3: 1, 4: 2, 5: 2}
        for n, step in [(1, 1), (2, 1), (3, 11), (4, 71)]:
            for yes in telling_answers(n)[::step]:
                triples = zip(votes_told(n, yes, "vote"), votes_told(n, yes, "winner"),
                              votes_told(n, yes, "order"), strict=True)
                rounds = 0
                for vote, winner, order in triples:
                    if vote[0] == 1:
                        rounds += 1
                        self.assertIn(vote[1:], ([0, 0, 0], [1, 1, 1]))
                        self.assertEqual((winner, order), ([-33], [-33]), (n, yes))
                    else:
                        self.assertEqual(winner, [best[order[0]]], (n, yes))
                self.assertEqual(tell(n, yes, ("rounds",)), [[rounds]], (n, yes))


if __name__ == "__main__":
    unittest.main()
