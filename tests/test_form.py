import unittest

from tests.helper import GREATEST, add, begin, chain, drop, each_one, fold, line
from walktree.walked import answers


class Unchanging(list):
    """A list that can be read, and fails whenever somebody changes it, for a while too."""

    def refuse(self, *given, **named):
        raise AssertionError("what is handed in was changed")

    append = clear = extend = insert = pop = remove = reverse = sort = refuse
    __setitem__ = __delitem__ = __iadd__ = __imul__ = refuse


MIXED = line(
    add(0), add(0), add(1), fold(1, 1), add(3), fold(9, 1), drop(0), drop(1), add(GREATEST), begin(), add(0), fold(0, 7)
)
MIXED_ANSWERS = each_one(1, 2, 3, 0, 4, -2, -22, 3, -2, 0, 1, -22)


class Form(unittest.TestCase):
    def test_the_empty_list(self):
        self.assertEqual(answers([]), [])

    def test_a_one_before_each_number(self):
        self.assertEqual(answers(MIXED), MIXED_ANSWERS)

    def test_a_refusal_is_its_number_alone(self):
        self.assertEqual(answers(line(add(5), drop(0), fold(0, 2))), [1, -2, 1, -22, 1, -22])
        self.assertEqual(answers(line(*chain(127), add(0)))[-2:], [1, -28])

    def test_400_calls(self):
        calls = line(*[add(0), drop(1)] * 200)
        self.assertEqual(answers(calls), each_one(*[1, 1] * 200))
        calls = line(*[begin()] * 400)
        self.assertEqual(answers(calls), each_one(*[0] * 400))
        calls = line(*chain(127), *[add(0)] * 145, drop(1), *chain(127))
        self.assertEqual(answers(calls), each_one(*range(1, 128), *[-28] * 145, 127, *range(1, 128)))

    def test_numbers_of_a_call_are_not_read_as_calls(self):
        calls = line(fold(0, 1), fold(3, 3), add(2), drop(1), add(0), fold(1, 0), drop(2))
        self.assertEqual(answers(calls), each_one(0, -2, -2, -2, 1, 0, -2))

    def test_what_is_handed_in_is_not_changed(self):
        handed = list(MIXED)
        answers(handed)
        self.assertEqual(handed, MIXED)
        self.assertEqual(answers(Unchanging(MIXED)), MIXED_ANSWERS)
        empty = []
        self.assertIsNot(answers(empty), empty)

    def test_nothing_is_kept(self):
        for calls in (line(*chain(127)), fold(0, 1), add(0), MIXED):
            first = answers(calls)
            kept = list(first)
            first.append(77)
            self.assertEqual(answers(calls), kept)
        self.assertEqual(answers(add(0)), [1, 1])

    def test_a_list_of_whole_numbers_is_given_back(self):
        given = answers(MIXED)
        self.assertIs(type(given), list)
        self.assertEqual({type(number) for number in given}, {int})


if __name__ == "__main__":
    unittest.main()
