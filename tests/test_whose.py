"""The calls that tell what the answer hangs on: isodd, alike, whose, agreed."""

import unittest

from helper import alike_answers, bits_of, last, odd_answers, one_bits_answers, run, telling_answers, tell, words

MOST_OF_THREE = [3, 5, 6, 7]
MOST_OF_FOUR = [7, 11, 13, 14, 15]
CALLS = [("isodd",), ("alike",), ("whose",), ("agreed",)]


class Corners(unittest.TestCase):
    def told(self, n, yes, isodd, alike, whose, agreed):
        replies = tell(n, yes, *CALLS, ("state",))
        self.assertEqual(replies, [[isodd], [alike], whose, agreed, [n] + yes], (n, yes))

    def test_one_voter(self):
        self.told(1, [], 0, 1, [-33], [0, 0])
        self.told(1, [0], 1, 1, [0, 0], [0, 1])
        self.told(1, [1], 1, 1, [0, 1], [1, 0])
        self.told(1, [0, 1], 0, 1, [-33], [1, 1])

    def test_no_to_all_and_yes_to_all(self):
        for n in [1, 2, 3, 4]:
            self.told(n, [], 0, 1, [-33], [0, 0])
            self.told(n, words(n), 0, 1, [-33], [1, 1])

    def test_one_voters_own_and_the_opposite(self):
        for n in [2, 3, 4]:
            for i, own, yes in one_bits_answers(n):
                self.told(n, yes, 1, 0, [i, own], [own, 1 - own])
        self.assertEqual(last(("begin", 4), ("bit", 2), ("whose",)), [2, 1])
        self.assertEqual(last(("begin", 4), ("bit", 2), ("not",), ("whose",)), [2, 0])
        self.assertEqual(last(("begin", 4), ("bit", 2), ("turn", 2), ("whose",)), [2, 0])
        self.assertEqual(last(("begin", 3), ("odd", 2), ("whose",)), [1, 1])

    def test_the_most(self):
        self.told(3, MOST_OF_THREE, 1, 1, [-33], [1, 0])
        self.told(3, [0, 1, 2, 4], 1, 1, [-33], [0, 1])
        self.told(4, MOST_OF_FOUR, 0, 1, [-33], [1, 0])

    def test_all_must_say_yes(self):
        for n in [2, 3, 4]:
            self.told(n, [2 ** n - 1], 0, 1, [-33], [1, 0])

    def test_an_odd_number_must_say_yes(self):
        self.told(2, [1, 2], 0, 1, [-33], [0, 0])
        self.told(3, [1, 2, 4, 7], 1, 1, [-33], [1, 0])
        self.told(4, [1, 2, 4, 7, 8, 11, 13, 14], 0, 1, [-33], [0, 0])

    def test_half_yes_by_two_voters_alone(self):
        self.told(3, [1, 2, 5, 6], 0, 0, [-33], [0, 0])
        self.told(3, [0, 3, 4, 7], 0, 0, [-33], [1, 1])


class ByTheDocumentsWords(unittest.TestCase):
    def test_isodd(self):
        for n in [1, 2, 3, 4]:
            for yes in telling_answers(n):
                wanted = all((x in yes) != (2 ** n - 1 - x in yes) for x in words(n))
                self.assertEqual(tell(n, yes, ("isodd",)), [[1 if wanted else 0]], (n, yes))

    def test_every_odd_answer_and_its_near_misses(self):
        for n in [1, 2, 3, 4]:
            for number, yes in enumerate(odd_answers(n)):
                self.assertEqual(tell(n, yes, ("isodd",)), [[1]], (n, yes))
                self.assertEqual(tell(n, sorted(set(yes) ^ {number % 2 ** n}), ("isodd",)), [[0]], (n, yes))

    def test_alike(self):
        for n in [1, 2, 3, 4]:
            for yes in telling_answers(n):
                said = {(len(bits_of(x)), x in yes) for x in words(n)}
                self.assertEqual(tell(n, yes, ("alike",)), [[1 if len(said) == n + 1 else 0]], (n, yes))

    def test_every_alike_answer_and_its_near_misses(self):
        for n in [2, 3, 4]:
            for yes in alike_answers(n):
                self.assertEqual(tell(n, yes, ("alike",)), [[1]], (n, yes))
                for x in words(n)[1:-1]:
                    self.assertEqual(tell(n, sorted(set(yes) ^ {x}), ("alike",)), [[0]], (n, yes, x))
                for x in [0, 2 ** n - 1]:
                    self.assertEqual(tell(n, sorted(set(yes) ^ {x}), ("alike",)), [[1]], (n, yes, x))

    def test_whose(self):
        for n in [1, 2, 3, 4]:
            known = {tuple(yes): [i, own] for i, own, yes in one_bits_answers(n)}
            self.assertEqual(len(known), 2 * n)
            for yes in telling_answers(n):
                self.assertEqual(tell(n, yes, ("whose",)), [known.get(tuple(yes), [-33])], (n, yes))

    def test_agreed(self):
        for n in [1, 2, 3, 4]:
            for yes in telling_answers(n):
                wanted = [1 if 2 ** n - 1 in yes else 0, 1 if 0 in yes else 0]
                self.assertEqual(tell(n, yes, ("agreed",)), [wanted], (n, yes))

    def test_agreed_hangs_on_two_words_alone(self):
        self.assertEqual(last(("begin", 3), ("told", [1, 2, 3, 4, 5, 6]), ("agreed",)), [0, 0])
        self.assertEqual(last(("begin", 3), ("told", [0, 7]), ("agreed",)), [1, 1])
        replies = run(("begin", 4), ("not",), ("set", 15, 0), ("agreed",), ("set", 0, 0), ("agreed",))
        self.assertEqual(replies[2:], [[15], [0, 1], [14], [0, 0]])


if __name__ == "__main__":
    unittest.main()
