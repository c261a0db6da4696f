"""The calls that tell of the answer: ask, mean, levels, rising, state."""

import math
import unittest
from fractions import Fraction

from helper import last, model_levels, model_rising, run, some_answers, words

MOST_OF_THREE = ("least", 2, [1, 1, 1])


class Ask(unittest.TestCase):
    def test_every_word(self):
        for n in [1, 2, 3, 4]:
            for yes in some_answers(n):
                asked = run(("begin", n), ("told", yes), *[("ask", x) for x in words(n)])
                self.assertEqual(asked[2:], [[1 if x in yes else 0] for x in words(n)])


class Mean(unittest.TestCase):
    def test_no_to_all_and_yes_to_all(self):
        for n in [1, 2, 3, 4]:
            self.assertEqual(last(("begin", n), ("mean",)), [0, 0, 1])
            self.assertEqual(last(("begin", n), ("not",), ("mean",)), [0, 1, 1])

    def test_the_numbers_have_nothing_in_common(self):
        for n in [1, 2, 3, 4]:
            for many in range(2 ** n + 1):
                zero, upper, lower = last(("begin", n), ("told", words(n)[:many]), ("mean",))
                self.assertEqual(zero, 0)
                self.assertEqual(Fraction(upper, lower), Fraction(many, 2 ** n))
                self.assertEqual(math.gcd(upper, lower), 1)

    def test_told_by_hand(self):
        self.assertEqual(last(("begin", 3), MOST_OF_THREE, ("mean",)), [0, 1, 2])
        self.assertEqual(last(("begin", 4), ("least", 3, [1, 1, 1, 1]), ("mean",)), [0, 5, 16])
        self.assertEqual(last(("begin", 3), ("told", [1, 2, 3, 4, 5, 6]), ("mean",)), [0, 3, 4])


class Levels(unittest.TestCase):
    def test_no_to_all_and_yes_to_all(self):
        for n in [1, 2, 3, 4]:
            wanted = [n + 1, 1, 1] + [0, 1] * n
            self.assertEqual(last(("begin", n), ("levels",)), wanted)
            self.assertEqual(last(("begin", n), ("not",), ("levels",)), wanted)

    def test_one_bit_has_all_at_level_one(self):
        for n in [1, 2, 3, 4]:
            for i in range(n):
                wanted = [n + 1, 0, 1, 1, 1] + [0, 1] * (n - 1)
                self.assertEqual(last(("begin", n), ("bit", i), ("levels",)), wanted)
                self.assertEqual(last(("begin", n), ("bit", i), ("not",), ("levels",)), wanted)

    def test_odd_of_all_has_all_at_the_last_level(self):
        for n in [1, 2, 3, 4]:
            wanted = [n + 1] + [0, 1] * n + [1, 1]
            self.assertEqual(last(("begin", n), ("odd", 2 ** n - 1), ("levels",)), wanted)

    def test_told_by_hand(self):
        self.assertEqual(last(("begin", 3), MOST_OF_THREE, ("levels",)), [4, 0, 1, 3, 4, 0, 1, 1, 4])
        self.assertEqual(last(("begin", 2), ("told", [3]), ("levels",)), [3, 1, 4, 1, 2, 1, 4])

    def test_by_the_documents_words(self):
        for n in [1, 2, 3, 4]:
            for yes in some_answers(n):
                reply = last(("begin", n), ("told", yes), ("levels",))
                self.assertEqual(reply[0], n + 1)
                pairs = list(zip(reply[1::2], reply[2::2], strict=True))
                self.assertEqual([Fraction(u, v) for u, v in pairs], model_levels(n, yes))
                self.assertEqual([math.gcd(u, v) for u, v in pairs], [1] * (n + 1))
                self.assertTrue(all(v >= 1 for u, v in pairs))
                self.assertEqual(sum(Fraction(u, v) for u, v in pairs), 1)


class Rising(unittest.TestCase):
    def test_rising(self):
        for n in [1, 2, 3, 4]:
            self.assertEqual(last(("begin", n), ("rising",)), [1])
            self.assertEqual(last(("begin", n), ("not",), ("rising",)), [1])
            self.assertEqual(last(("begin", n), ("bit", n - 1), ("rising",)), [1])
            self.assertEqual(last(("begin", n), ("told", [2 ** n - 1]), ("rising",)), [1])
        self.assertEqual(last(("begin", 3), MOST_OF_THREE, ("rising",)), [1])

    def test_not_rising(self):
        for n in [1, 2, 3, 4]:
            self.assertEqual(last(("begin", n), ("bit", n - 1), ("not",), ("rising",)), [0])
            self.assertEqual(last(("begin", n), ("told", [0]), ("rising",)), [0])
        self.assertEqual(last(("begin", 3), MOST_OF_THREE, ("turn", 1), ("rising",)), [0])
        self.assertEqual(last(("begin", 2), ("odd", 3), ("rising",)), [0])

    def test_by_the_documents_words(self):
        for n in [1, 2, 3, 4]:
            for yes in some_answers(n):
                reply = last(("begin", n), ("told", yes), ("rising",))
                self.assertEqual(reply, [model_rising(n, yes)], (n, yes))

    def test_one_no_above_a_yes_is_found_wherever_it_is(self):
        for n in [2, 3, 4]:
            for x in words(n)[1:]:
                reply = last(("begin", n), ("not",), ("set", x, 0), ("rising",))
                self.assertEqual(reply, [0], (n, x))


class State(unittest.TestCase):
    def test_none_and_all_words(self):
        for n in [1, 2, 3, 4]:
            self.assertEqual(last(("begin", n), ("state",)), [n])
            self.assertEqual(last(("begin", n), ("not",), ("state",)), [n] + words(n))

    def test_rising_however_told(self):
        self.assertEqual(last(("begin", 4), ("told", [12, 3, 15, 0, 3]), ("state",)), [4, 0, 3, 12, 15])

    def test_every_answer(self):
        for n in [1, 2, 3, 4]:
            for yes in some_answers(n):
                self.assertEqual(last(("begin", n), ("told", yes[::-1]), ("state",)), [n] + yes)

    def test_telling_changes_nothing(self):
        for call in [("ask", 3), ("mean",), ("levels",), ("rising",), ("state",)]:
            replies = run(("begin", 3), ("told", [1, 6]), call, call, ("state",))
            self.assertEqual(replies[2], replies[3])
            self.assertEqual(replies[4], [3, 1, 6])


if __name__ == "__main__":
    unittest.main()
