"""Each refusal is its number alone, and nothing changes by it."""

import unittest

from helper import LARGEST, one_bits_answers, run, words

EVERY_OTHER_CALL = [
    ("told", [0]), ("least", 1, [1]), ("odd", 1), ("bit", 0), ("not",), ("turn", 0),
    ("set", 0, 1), ("ask", 0), ("mean",), ("levels",), ("rising",), ("state",),
    ("vote", [0]), ("winner", [0]), ("order", [0]), ("rounds",), ("noround",), ("byparts",),
    ("isodd",), ("alike",), ("whose",), ("first",), ("agreed",), ("wins", 0),
]


def not_right(n):
    """What -22 is due for, with n bits."""
    top = 2 ** n
    for large in [0, 5, 6, LARGEST]:
        yield ("begin", large)
    for bad in [top, top + 1, 16, LARGEST]:
        yield ("told", [bad])
        yield ("told", [0, bad])
        yield ("told", [bad, 0])
        yield ("odd", bad)
        yield ("set", bad, 0)
        yield ("set", bad, 1)
        yield ("set", bad, 2)
        yield ("ask", bad)
    for many in [33, 34, 255]:
        yield ("told", [0] * many)
        yield ("told", [LARGEST] * many)
    for many in [0, n - 1, n + 1, 255]:
        yield ("least", 0, [1] * many)
    for bad in [10, LARGEST]:
        for place in range(n):
            numbers = [0] * n
            numbers[place] = bad
            yield ("least", 0, numbers)
    for b in [2, 3, LARGEST]:
        yield ("set", 0, b)
        yield ("set", top - 1, b)
    for call in ["vote", "winner", "order"]:
        for many in [0, n - 1, n + 1, 255]:
            yield (call, [0] * many)
        for bad in [6, LARGEST]:
            for place in range(n):
                yield (call, [0] * place + [bad] + [5] * (n - 1 - place))
    for k in [3, 4, LARGEST]:
        yield ("wins", k)


def no_such_bit(n):
    for i in [n, n + 1, 4, 32, LARGEST]:
        yield ("bit", i)
        yield ("turn", i)


class Refusals(unittest.TestCase):
    def refused(self, n, call, number, yes=None):
        yes = [2 ** n - 1] if yes is None else yes
        replies = run(("begin", n), ("told", yes), ("state",), call, ("state",), ("ask", 2 ** n), ("levels",))
        untouched = run(("begin", n), ("told", yes), ("levels",))[-1]
        self.assertEqual(replies[2], [n] + yes)
        self.assertEqual(replies[3], [number], (n, call))
        self.assertEqual(replies[4], replies[2], (n, call))
        self.assertEqual(replies[5], [-22])
        self.assertEqual(replies[6], untouched)

    def test_what_is_given_is_not_right(self):
        for n in [1, 2, 3, 4]:
            for call in not_right(n):
                self.refused(n, call, -22)

    def test_there_is_no_such_bit(self):
        for n in [1, 2, 3, 4]:
            for call in no_such_bit(n):
                self.refused(n, call, -2)

    def test_there_is_none(self):
        for n in [1, 2, 3, 4]:
            for row in [[0] * n, [5] * n]:
                for yes in [[], words(n)]:
                    self.refused(n, ("winner", row), -33, yes)
                    self.refused(n, ("order", row), -33, yes)
            self.refused(n, ("whose",), -33, [])
            self.refused(n, ("whose",), -33, words(n))
            for i, own, yes in one_bits_answers(n):
                self.refused(n, ("first",), -33, yes)
        self.refused(2, ("whose",), -33, [1])
        self.refused(3, ("winner", [0, 3, 4]), -33, [3, 5, 6, 7])
        self.refused(3, ("order", [1, 5, 2]), -33, [3, 5, 6, 7])
        self.refused(3, ("whose",), -33, [3, 5, 6, 7])

    def test_not_right_goes_ahead_of_none(self):
        for n in [1, 2, 3, 4]:
            for call in ["winner", "order"]:
                for row in [[], [0] * (n + 1), [6] * n, [0] * (n - 1) + [LARGEST]]:
                    self.refused(n, (call, row), -22, [])
                    self.refused(n, (call, row), -22, words(n))

    def test_the_last_that_is_granted(self):
        for n in [1, 2, 3, 4]:
            for call in [("told", [2 ** n - 1] * 32), ("least", 0, [9] * n), ("odd", 2 ** n - 1), ("bit", n - 1),
                         ("turn", n - 1), ("set", 2 ** n - 1, 1), ("ask", 2 ** n - 1), ("vote", [5] * n),
                         ("wins", 2)]:
                self.assertGreaterEqual(run(("begin", n), call)[-1][0], 0, (n, call))
            for call in [("winner", [5] * n), ("order", [5] * n)]:
                self.assertGreaterEqual(run(("begin", n), ("bit", 0), call)[-1][0], 0, (n, call))


class BeforeABegin(unittest.TestCase):
    def test_every_other_call(self):
        for call in EVERY_OTHER_CALL:
            self.assertEqual(run(call, call), [[-11], [-11]], call)

    def test_all_in_one_list_and_then_a_begin(self):
        replies = run(*EVERY_OTHER_CALL, ("begin", 2), ("state",), ("bit", 1))
        self.assertEqual(replies, [[-11]] * len(EVERY_OTHER_CALL) + [[0], [2], [2]])

    def test_it_goes_ahead_of_other_refusals(self):
        for call in [("told", [LARGEST]), ("told", [0] * 255), ("least", 0, []), ("least", LARGEST, [10] * 255),
                     ("odd", LARGEST), ("bit", LARGEST), ("turn", LARGEST), ("set", LARGEST, LARGEST),
                     ("ask", LARGEST), ("vote", [9] * 255), ("winner", []), ("order", [6]), ("wins", 3),
                     ("vote", []), ("winner", [LARGEST]), ("order", [0] * 5), ("wins", LARGEST)]:
            self.assertEqual(run(call), [[-11]], call)

    def test_a_begin_that_was_refused_is_none(self):
        for n in [0, 5, LARGEST]:
            for call in EVERY_OTHER_CALL:
                self.assertEqual(run(("begin", n), call), [[-22], [-11]], call)

    def test_a_refused_begin_then_a_granted_one(self):
        replies = run(("begin", 0), ("begin", 5), ("state",), ("begin", 4), ("state",), ("begin", 0), ("state",))
        self.assertEqual(replies, [[-22], [-22], [-11], [0], [4], [-22], [4]])

    def test_a_second_begin_refused_keeps_bits_and_answer(self):
        for n in [0, 5, LARGEST]:
            replies = run(("begin", 3), ("told", [2, 7]), ("begin", n), ("state",), ("bit", 2), ("ask", 8))
            self.assertEqual(replies, [[0], [2], [-22], [3, 2, 7], [4], [-22]])


if __name__ == "__main__":
    unittest.main()
