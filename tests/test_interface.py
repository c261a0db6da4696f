"""What is handed in, and the list that is given back."""

import unittest

import roundvotes.voters
from helper import LARGEST, line
from roundvotes.voters import answers


class GivenBack(unittest.TestCase):
    def test_several_calls_with_how_many_numbers_ahead(self):
        handed = [0, 3, 2, 2, 3, 1, 1, 1, 12, 9, 10, 11, 8, 3, 6, 3, 7, 0, 1, 5, 12]
        wanted = [1, 0, 1, 4, 5, 3, 3, 5, 6, 7, 3, 0, 1, 2, 9, 4, 0, 1, 3, 4, 0, 1, 1, 4,
                  1, 1, 1, 1, 1, -2, 1, 5, 1, 3, 4, 3, 1, 2, 4]
        self.assertEqual(answers(handed), wanted)

    def test_each_calls_numbers(self):
        self.assertEqual(answers([0, 1, 1, 1, 1, 12]), [1, 0, 1, 1, 2, 1, 1])
        self.assertEqual(answers([0, 2, 1, 0, 12]), [1, 0, 1, 0, 1, 2])
        self.assertEqual(answers([0, 2, 3, 3, 4, 1, 5, 6, 0, 7, 3, 1]),
                         [1, 0, 1, 2, 1, 2, 1, 2, 1, 2, 1, 3])

    def test_one_call_alone(self):
        self.assertEqual(answers([0, 1]), [1, 0])
        self.assertEqual(answers([12]), [1, -11])

    def test_the_rows_of_calls_before_a_begin_are_passed_over(self):
        self.assertEqual(answers([13, 2, 0, 0, 14, 0, 15, 3, 5, 1, 2, 24, 0, 2, 7, 2, 0, 4, 0, 4]),
                         [1, -11, 1, -11, 1, -11, 1, -11, 1, -11, 1, 0])

    def test_thirty_calls(self):
        handed = [0, 4] + [5] * 29
        self.assertEqual(answers(handed), [1, 0] + [1, 16, 1, 0] * 14 + [1, 16])

    def test_whole_numbers_alone(self):
        given_back = answers(line(("begin", 3), ("told", [1]), ("least", 2, [1, 1, 1]), ("odd", 5), ("bit", 0),
                                  ("not",), ("turn", 1), ("set", 2, 1), ("ask", 2), ("mean",), ("levels",),
                                  ("rising",), ("state",), ("begin", 9), ("bit", 3)))
        self.assertIs(type(given_back), list)
        self.assertEqual({type(number) for number in given_back}, {int})


class HandedIn(unittest.TestCase):
    def test_it_is_the_same_afterwards(self):
        for handed in [
            line(("begin", 2), ("told", [3, 1, 3]), ("least", 1, [1, 9]), ("set", 0, 1), ("turn", 1), ("state",)),
            line(("told", [5]), ("begin", 5), ("begin", 1), ("least", 0, [4]), ("not",)),
        ]:
            before = list(handed)
            answers(handed)
            self.assertEqual(handed, before)

    def test_what_is_given_back_is_another_list_each_time(self):
        handed = line(("begin", 2), ("not",), ("state",))
        once = answers(handed)
        once.append(7)
        again = answers(handed)
        self.assertEqual(again, [1, 0, 1, 4, 5, 2, 0, 1, 2, 3])

    def test_two_lists_do_not_know_of_each_other(self):
        self.assertEqual(answers([0, 2, 5]), [1, 0, 1, 4])
        self.assertEqual(answers([12]), [1, -11])
        self.assertEqual(answers([0, 2, 12]), [1, 0, 1, 2])

    def test_the_largest_numbers(self):
        top = LARGEST
        handed = line(("begin", top), ("begin", 4), ("told", [top]), ("least", top, [9, 9, 9, 9]),
                      ("least", 0, [top, 0, 0, 0]), ("odd", top), ("bit", top), ("turn", top),
                      ("set", top, top), ("set", top, 1), ("set", 1, top), ("ask", top), ("state",))
        self.assertEqual(answers(handed), [1, -22, 1, 0, 1, -22, 1, 0, 1, -22, 1, -22, 1, -2, 1, -2,
                                           1, -22, 1, -22, 1, -22, 1, -22, 1, 4])

    def test_lists_of_two_hundred_and_fifty_five_numbers(self):
        handed = line(("told", [12] * 255), ("begin", 1), ("told", [0] * 255), ("least", 0, [0] * 255),
                      ("told", [LARGEST] * 255), ("least", 5, [LARGEST] * 255), ("not",), ("state",))
        self.assertEqual(answers(handed), [1, -11, 1, 0, 1, -22, 1, -22, 1, -22, 1, -22, 1, 2, 3, 1, 0, 1])

    def test_the_longest_line(self):
        handed = line(("begin", 4), *[("least", 0, [1] * 255)] * 29)
        self.assertEqual(answers(handed), [1, 0] + [1, -22] * 29)

    def test_a_rows_numbers_are_not_taken_for_calls(self):
        handed = line(("begin", 4), ("told", [0, 4, 5, 12]), ("least", 12, [5, 9, 0, 4]), ("state",))
        self.assertEqual(answers(handed), [1, 0, 1, 4, 1, 6, 7, 4, 3, 7, 10, 11, 14, 15])

    def test_the_module_bears_the_name(self):
        self.assertIs(roundvotes.voters.answers, answers)


if __name__ == "__main__":
    unittest.main()
