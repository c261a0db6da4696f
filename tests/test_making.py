"""begin, and the calls that make another answer: told, least, odd, bit, not, turn, set."""

import unittest

from helper import bits_of, run, some_answers, words


class Making(unittest.TestCase):
    def made(self, n, call, yes, before=("not",)):
        """The call answers how many, and the state is the words to which it says yes."""
        replies = run(("begin", n), before, call, ("state",))
        self.assertEqual(replies[2], [len(yes)], call)
        self.assertEqual(replies[3], [n] + sorted(yes), call)


class Begin(Making):
    def test_one_to_four_bits_and_no_to_all(self):
        for n in [1, 2, 3, 4]:
            self.assertEqual(run(("begin", n), ("state",), ("mean",)), [[0], [n], [0, 0, 1]])

    def test_the_words_are_those_below_two_to_the_n(self):
        for n in [1, 2, 3, 4]:
            top = 2 ** n
            replies = run(("begin", n), ("ask", top - 1), ("ask", top))
            self.assertEqual(replies, [[0], [0], [-22]])

    def test_a_second_begin_is_granted_anew(self):
        replies = run(("begin", 2), ("told", [1, 3]), ("begin", 3), ("state",), ("ask", 7), ("begin", 3), ("state",))
        self.assertEqual(replies, [[0], [2], [0], [3], [0], [0], [3]])

    def test_a_second_begin_with_fewer_bits(self):
        replies = run(("begin", 4), ("not",), ("begin", 1), ("state",), ("ask", 2), ("bit", 1))
        self.assertEqual(replies, [[0], [16], [0], [1], [-22], [-2]])


class Told(Making):
    def test_yes_to_those_alone(self):
        self.made(1, ("told", [0]), [0])
        self.made(2, ("told", [3, 0]), [0, 3])
        self.made(3, ("told", [7, 5, 6, 3]), [3, 5, 6, 7])
        self.made(4, ("told", [15, 0, 8]), [0, 8, 15])

    def test_of_none(self):
        for n in [1, 2, 3, 4]:
            self.made(n, ("told", []), [])

    def test_a_number_twice_counts_once(self):
        self.made(2, ("told", [3, 1, 3, 3]), [1, 3])

    def test_of_thirty_two_numbers(self):
        self.made(4, ("told", words(4) + words(4)), words(4))
        self.made(1, ("told", [1] * 32), [1])


class Least(Making):
    def test_the_most_of_three(self):
        self.made(3, ("least", 2, [1, 1, 1]), [3, 5, 6, 7])

    def test_the_most_of_four_ties_no(self):
        self.made(4, ("least", 3, [1, 1, 1, 1]), [7, 11, 13, 14, 15])

    def test_each_bit_has_its_own_number(self):
        self.made(2, ("least", 2, [1, 2]), [2, 3])
        self.made(3, ("least", 5, [9, 0, 4]), [1, 3, 5, 7])
        self.made(4, ("least", 10, [1, 2, 7, 9]), [7, 9, 10, 11, 12, 13, 14, 15])

    def test_of_nought_all_words_reach_it(self):
        for n in [1, 2, 3, 4]:
            self.made(n, ("least", 0, [0] * n), words(n), before=("told", []))

    def test_what_only_all_bits_reach(self):
        for n in [1, 2, 3, 4]:
            self.made(n, ("least", 9 * n, [9] * n), [2 ** n - 1])

    def test_what_none_reaches(self):
        for n in [1, 2, 3, 4]:
            self.made(n, ("least", 9 * n + 1, [9] * n), [])
            self.made(n, ("least", 4294967295, [9] * n), [])
            self.made(n, ("least", 1, [0] * n), [])


class Odd(Making):
    def test_every_set(self):
        for n in [1, 2, 3, 4]:
            for chosen in words(n):
                yes = [x for x in words(n) if len(bits_of(x) & bits_of(chosen)) % 2 == 1]
                self.made(n, ("odd", chosen), yes)

    def test_of_none_and_of_all_bits(self):
        self.made(3, ("odd", 0), [])
        self.made(3, ("odd", 7), [1, 2, 4, 7])
        self.made(4, ("odd", 15), [1, 2, 4, 7, 8, 11, 13, 14])


class Bit(Making):
    def test_every_bit(self):
        for n in [1, 2, 3, 4]:
            for i in range(n):
                self.made(n, ("bit", i), [x for x in words(n) if i in bits_of(x)])

    def test_bit_two_of_three(self):
        self.made(3, ("bit", 2), [4, 5, 6, 7])


class Not(Making):
    def test_the_other_words_alone(self):
        for n in [1, 2, 3, 4]:
            for yes in some_answers(n):
                self.made(n, ("not",), set(words(n)) - set(yes), before=("told", yes))


class Turn(Making):
    def test_each_bit_turned(self):
        for n in [1, 2, 3, 4]:
            for yes in some_answers(n):
                for i in range(n):
                    self.made(n, ("turn", i), [x ^ 2 ** i for x in yes], before=("told", yes))

    def test_the_most_of_three_with_a_bit_turned(self):
        self.made(3, ("turn", 0), [2, 4, 6, 7], before=("least", 2, [1, 1, 1]))


class Set(Making):
    def test_each_word_yes_and_no(self):
        for n in [1, 2, 3]:
            for yes in some_answers(n):
                for x in words(n):
                    self.made(n, ("set", x, 1), set(yes) | {x}, before=("told", yes))
                    self.made(n, ("set", x, 0), set(yes) - {x}, before=("told", yes))

    def test_with_four_bits(self):
        self.made(4, ("set", 15, 1), [2, 15], before=("told", [2]))
        self.made(4, ("set", 2, 1), [2], before=("told", [2]))
        self.made(4, ("set", 2, 0), [], before=("told", [2]))
        self.made(4, ("set", 0, 0), [2], before=("told", [2]))


if __name__ == "__main__":
    unittest.main()
