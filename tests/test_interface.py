"""What is handed in, and the list that is given back."""

import unittest

import roundvotes.voters
from helper import LARGEST, cut, line
from roundvotes.voters import answers

TOLD_OF_THE_MOST_OF_THREE = [
    (("vote", [0, 3, 4]), [1, 1, 1, 1]), (("winner", [0, 3, 2]), [1]), (("order", [0, 3, 2]), [2]),
    (("rounds",), [12]), (("noround",), [0, 17, 18]), (("byparts",), [0, 17, 18]), (("isodd",), [1]),
    (("alike",), [1]), (("whose",), [-33]), (("first",), [3, 0, 3, 4]), (("agreed",), [1, 0]), (("wins", 2), [68]),
]


def refuse(*given):
    raise AssertionError("what is handed in was changed")


class Untouched(list):
    """A list that tells of every change, one that is undone too."""

    append = clear = extend = insert = pop = remove = reverse = sort = refuse
    __setitem__ = __delitem__ = __iadd__ = __imul__ = refuse


class GivenBack(unittest.TestCase):
    def test_several_calls_with_how_many_numbers_ahead(self):
        handed = [0, 3, 2, 2, 3, 1, 1, 1, 12, 9, 10, 11, 8, 3, 6, 3, 7, 0, 1, 5, 12]
        wanted = [1, 0, 1, 4, 5, 3, 3, 5, 6, 7, 3, 0, 1, 2, 9, 4, 0, 1, 3, 4, 0, 1, 1, 4,
                  1, 1, 1, 1, 1, -2, 1, 5, 1, 3, 4, 3, 1, 2, 4]
        self.assertEqual(answers(handed), wanted)

    def test_each_calls_numbers(self):
        self.assertEqual(answers([0, 1, 1, 1, 1, 12]), [1, 0, 1, 1, 2, 1, 1])
        self.assertEqual(answers([0, 2, 1, 0, 12]), [1, 0, 1, 0, 1, 2])
        self.assertEqual(answers([0, 2, 3, 3, 4, 1, 5, 6, 0, 7, 3, 1]),
                         [1, 0, 1, 2, 1, 2, 1, 2, 1, 2, 1, 3])

    def test_the_calls_of_votes_with_how_many_numbers_ahead(self):
        handed = [0, 3, 2, 2, 3, 1, 1, 1, 13, 3, 0, 3, 4, 14, 3, 0, 3, 4, 15, 3, 0, 3, 2, 16, 17, 18, 19, 20, 21, 22,
                  23, 24, 1, 24, 3, 13, 0, 14, 3, 5, 1, 4]
        wanted = [1, 0, 1, 4, 4, 1, 1, 1, 1, 1, -33, 1, 2, 1, 12, 3, 0, 17, 18, 3, 0, 17, 18, 1, 1, 1, 1, 1, -33,
                  4, 3, 0, 3, 4, 2, 1, 0, 1, 68, 1, -22, 1, -22, 1, 2]
        self.assertEqual(answers(handed), wanted)

    def test_an_answer_made_between_two_asked(self):
        self.assertEqual(answers([0, 2, 16, 4, 1, 16, 21, 5, 21, 6, 1, 21, 7, 0, 1, 21, 23]),
                         [1, 0, 1, 36, 1, 2, 1, 0, 2, 1, 1, 1, 2, 2, 1, 0, 1, 2, 2, 1, 1, 1, 3, 1, -33, 2, 1, 1])

    def test_one_call_alone(self):
        self.assertEqual(answers([0, 1]), [1, 0])
        self.assertEqual(answers([12]), [1, -11])

    def test_the_rows_of_calls_before_a_begin_are_passed_over(self):
        self.assertEqual(answers([13, 2, 0, 0, 14, 0, 15, 3, 5, 1, 2, 24, 0, 2, 7, 2, 0, 4, 0, 4]),
                         [1, -11, 1, -11, 1, -11, 1, -11, 1, -11, 1, 0])

    def test_thirty_calls(self):
        handed = [0, 4] + [5] * 29
        self.assertEqual(answers(handed), [1, 0] + [1, 16, 1, 0] * 14 + [1, 16])

    def test_the_same_call_again_and_again(self):
        for call, reply in TOLD_OF_THE_MOST_OF_THREE:
            handed = line(("begin", 3), ("least", 2, [1, 1, 1]), *[call] * 28)
            self.assertEqual(cut(answers(handed)), [[0], [4]] + [reply] * 28, call)

    def test_every_call_of_votes_in_one_list_and_back_again(self):
        calls = [call for call, reply in TOLD_OF_THE_MOST_OF_THREE]
        replies = [reply for call, reply in TOLD_OF_THE_MOST_OF_THREE]
        handed = line(("begin", 3), ("least", 2, [1, 1, 1]), *calls, *calls[::-1], ("state",))
        self.assertEqual(cut(answers(handed)), [[0], [4]] + replies + replies[::-1] + [[3, 3, 5, 6, 7]])

    def test_whole_numbers_alone(self):
        making = line(("begin", 3), ("told", [1]), ("least", 2, [1, 1, 1]), ("odd", 5), ("bit", 0), ("not",),
                      ("turn", 1), ("set", 2, 1), ("ask", 2), ("mean",), ("levels",), ("rising",), ("state",),
                      ("begin", 9), ("bit", 3))
        of_the_most = [call for call, reply in TOLD_OF_THE_MOST_OF_THREE]
        votes = line(("begin", 3), ("least", 2, [1, 1, 1]), *of_the_most, ("bit", 1), *of_the_most)
        for handed in [making, votes]:
            given_back = answers(handed)
            self.assertIs(type(given_back), list)
            self.assertEqual({type(number) for number in given_back}, {int})


class HandedIn(unittest.TestCase):
    def test_it_is_the_same_afterwards(self):
        for handed in [
            line(("begin", 2), ("told", [3, 1, 3]), ("least", 1, [1, 9]), ("set", 0, 1), ("turn", 1), ("state",)),
            line(("told", [5]), ("begin", 5), ("begin", 1), ("least", 0, [4]), ("not",)),
            line(("begin", 2), ("bit", 1), ("vote", [3, 1]), ("winner", [5, 0]), ("order", [2, 4]), ("vote", [6, 0]),
                 ("winner", []), ("rounds",), ("first",), ("not",), ("whose",), ("wins", 1), ("wins", 3)),
        ]:
            before = list(handed)
            answers(handed)
            self.assertEqual(handed, before)

    def test_it_is_not_changed_for_a_while_either(self):
        for n in [1, 2, 3, 4]:
            every_call = line(("begin", n), ("told", [1, 0]), ("least", 1, [1] * n), ("odd", 1), ("bit", 0), ("not",),
                              ("turn", 0), ("set", 0, 1), ("ask", 1), ("mean",), ("levels",), ("rising",), ("state",),
                              ("vote", [3] * n), ("winner", [2] * n), ("order", [4] * n), ("rounds",), ("noround",),
                              ("byparts",), ("isodd",), ("alike",), ("whose",), ("first",), ("agreed",), ("wins", 2),
                              ("vote", [6] * n), ("told", [99]))
            self.assertEqual(answers(Untouched(every_call)), answers(every_call))

    def test_what_is_given_back_is_another_list_each_time(self):
        handed = line(("begin", 2), ("not",), ("state",))
        once = answers(handed)
        once.append(7)
        again = answers(handed)
        self.assertEqual(again, [1, 0, 1, 4, 5, 2, 0, 1, 2, 3])

    def test_two_lists_do_not_know_of_each_other(self):
        self.assertEqual(answers([0, 2, 5]), [1, 0, 1, 4])
        self.assertEqual(answers([12]), [1, -11])
        self.assertEqual(answers([0, 2, 12]), [1, 0, 1, 2])

    def test_each_time_is_as_the_first_time(self):
        lines = [line(("begin", n), ("bit", 0), ("rounds",), ("noround",), ("byparts",), ("whose",), ("first",),
                      ("set", 0, 1), ("rounds",), ("first",), ("wins", 0), ("agreed",)) for n in [4, 1, 3, 2]]
        once = [answers(handed) for handed in lines]
        again = [answers(handed) for handed in reversed(lines)]
        self.assertEqual(once, again[::-1])
        self.assertEqual(answers([22]), [1, -11])
        self.assertEqual(answers([0, 1, 22]), [1, 0, 2, 1, 0])

    def test_the_largest_numbers(self):
        top = LARGEST
        handed = line(("begin", top), ("begin", 4), ("told", [top]), ("least", top, [9, 9, 9, 9]),
                      ("least", 0, [top, 0, 0, 0]), ("odd", top), ("bit", top), ("turn", top),
                      ("set", top, top), ("set", top, 1), ("set", 1, top), ("ask", top), ("state",))
        self.assertEqual(answers(handed), [1, -22, 1, 0, 1, -22, 1, 0, 1, -22, 1, -22, 1, -2, 1, -2,
                                           1, -22, 1, -22, 1, -22, 1, -22, 1, 4])

    def test_lists_of_two_hundred_and_fifty_five_numbers(self):
        handed = line(("told", [12] * 255), ("begin", 1), ("told", [0] * 255), ("least", 0, [0] * 255),
                      ("told", [LARGEST] * 255), ("least", 5, [LARGEST] * 255), ("not",), ("state",))
        self.assertEqual(answers(handed), [1, -11, 1, 0, 1, -22, 1, -22, 1, -22, 1, -22, 1, 2, 3, 1, 0, 1])

    def test_the_longest_line(self):
        handed = line(("begin", 4), *[("least", 0, [1] * 255)] * 29)
        self.assertEqual(answers(handed), [1, 0] + [1, -22] * 29)
        handed = line(("begin", 4), *[("order", [5] * 255)] * 29)
        self.assertEqual(answers(handed), [1, 0] + [1, -22] * 29)

    def test_the_largest_numbers_of_votes(self):
        top = LARGEST
        handed = line(("wins", top), ("begin", 2), ("vote", [top, top]), ("winner", [0, top]), ("order", [top, 0]),
                      ("wins", top), ("vote", [top] * 255), ("winner", [top] * 255), ("state",))
        self.assertEqual(answers(handed), [1, -11, 1, 0] + [1, -22] * 6 + [1, 2])

    def test_a_rows_numbers_are_not_taken_for_calls(self):
        handed = line(("begin", 4), ("told", [0, 4, 5, 12]), ("least", 12, [5, 9, 0, 4]), ("state",))
        self.assertEqual(answers(handed), [1, 0, 1, 4, 1, 6, 7, 4, 3, 7, 10, 11, 14, 15])

    def test_the_module_bears_the_name(self):
        self.assertIs(roundvotes.voters.answers, answers)


if __name__ == "__main__":
    unittest.main()
