import time
import unittest

from tests.helper import (
    DOWN, GREATEST, LEFTMOST, RIGHTMOST, UP, add, asked, at, begin, chain, drop, each_one, fold, go, grow,
    line, pick, show,
)
from walktree.walked import answers


class Unchanging(list):
    """A list that can be read, and fails whenever somebody changes it, for a while too."""

    def refuse(self, *given, **named):
        raise AssertionError("what is handed in was changed")

    append = clear = extend = insert = pop = remove = reverse = sort = refuse
    __setitem__ = __delitem__ = __iadd__ = __imul__ = refuse


MIXED = line(
    add(0), add(0), add(1), show(), go(DOWN), fold(1, 1), add(3), at(), fold(9, 1), show(), pick(2, 1), go(4), drop(0),
    drop(1), at(), add(GREATEST), begin(), show(), add(0), fold(0, 7), go(UP),
)
MIXED_ANSWERS = (
    each_one(1, 2, 3) + [13, 4, 0, 0, 1, 1, 1, 0, 3, 2, 0, 2, 1, 2] + each_one(1, 0, 4, 1, -2)
    + [10, 3, 0, 0, 1, 1, 1, 0, 2, 1, 2] + each_one(2, -22, -22, 3, 2, -2, 0) + [4, 1, 0, 0, 0] + each_one(1, -22, -2)
)
# Adds of 127 nodes each: a long row of single children, a broad row, two children each, and single children with one
# more beside each.
FULL = {
    "long": list(range(127)),
    "broad": [0] * 127,
    "branching": [node // 2 for node in range(127)],
    "beside": [max(0, node - 1) if node % 2 == 0 else node for node in range(127)],
}


class Form(unittest.TestCase):
    def test_the_empty_list(self):
        self.assertEqual(answers([]), [])

    def test_how_many_numbers_stand_before_what_is_answered(self):
        self.assertEqual(answers(MIXED), MIXED_ANSWERS)

    def test_a_refusal_is_its_number_alone(self):
        self.assertEqual(answers(line(add(5), drop(0), fold(0, 2))), [1, -2, 1, -22, 1, -22])
        self.assertEqual(answers(line(go(4), go(0), pick(0, 1), pick(LEFTMOST, 0))), [1, -22, 1, -2, 1, -2, 1, -2])
        self.assertEqual(answers(line(*chain(127), add(0)))[-2:], [1, -28])

    def test_400_calls(self):
        calls = line(*[add(0), drop(1)] * 200)
        self.assertEqual(answers(calls), each_one(*[1, 1] * 200))
        calls = line(*[begin()] * 400)
        self.assertEqual(answers(calls), each_one(*[0] * 400))
        calls = line(*chain(127), *[add(0)] * 145, drop(1), *chain(127))
        self.assertEqual(answers(calls), each_one(*range(1, 128), *[-28] * 145, 127, *range(1, 128)))

    def test_400_calls_with_many_shows_of_128_nodes(self):
        for name, parents in FULL.items():
            before = time.process_time()
            given = asked(*grow(parents), *[show()] * 273)
            self.assertLess(time.process_time() - before, 10, name)
            self.assertEqual(len(given), 400)
            self.assertEqual([part[0] for part in given[127:]], [128] * 273)
            self.assertEqual([part for part in given[127:] if part != given[127]], [])

    def test_400_calls_with_many_picks_among_128_nodes(self):
        for name, parents in FULL.items():
            before = time.process_time()
            given = asked(*grow(parents), *[pick(RIGHTMOST, 1), pick(LEFTMOST, 127)] * 136, at())
            self.assertLess(time.process_time() - before, 10, name)
            self.assertEqual(given[127:], [[-2]] * 272 + [[0]])

    def test_400_calls_with_the_128th_node_dropped_and_added(self):
        for parents in FULL.values():
            calls = grow(parents) + [drop(127), add(parents[-1]), show()] * 91
            given = asked(*calls)
            seen = asked(*grow(parents), show())[-1]
            self.assertEqual(len(given), 400)
            self.assertEqual([part for part in given[127::3] if part != [1]], [])
            self.assertEqual([part for part in given[129::3] if part != seen], [])

    def test_numbers_of_a_call_are_not_read_as_calls(self):
        calls = line(fold(0, 1), fold(3, 3), add(2), drop(1), add(0), fold(1, 0), drop(2))
        self.assertEqual(answers(calls), each_one(0, -2, -2, -2, 1, 0, -2))
        calls = line(go(7), pick(7, 7), at(), go(6), pick(6, 0), pick(0, 5), at(), fold(7, 7), add(6), at())
        self.assertEqual(answers(calls), each_one(-22, -2, 0, -22, -2, -2, 0, -2, -2, 0))

    def test_what_is_handed_in_is_not_changed(self):
        handed = list(MIXED)
        answers(handed)
        self.assertEqual(handed, MIXED)
        self.assertEqual(answers(Unchanging(MIXED)), MIXED_ANSWERS)
        empty = []
        self.assertIsNot(answers(empty), empty)

    def test_nothing_is_kept(self):
        for calls in (line(*chain(127)), fold(0, 1), add(0), line(add(0), go(DOWN)), at(), show(), MIXED):
            first = answers(calls)
            kept = list(first)
            first.append(77)
            self.assertEqual(answers(calls), kept)
        self.assertEqual(answers(add(0)), [1, 1])
        self.assertEqual(answers(at()), [1, 0])
        self.assertEqual(answers(show()), [4, 1, 0, 0, 0])

    def test_a_list_of_whole_numbers_is_given_back(self):
        given = answers(MIXED)
        self.assertIs(type(given), list)
        self.assertEqual({type(number) for number in given}, {int})


if __name__ == "__main__":
    unittest.main()
