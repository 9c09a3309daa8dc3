import unittest

from tests.helper import add, begin, chain, drop, each_one, fold, line, shown, state
from walktree.walked import Tree, answers


class Begin(unittest.TestCase):
    def test_answers_nought(self):
        self.assertEqual(answers(begin()), [1, 0])
        self.assertEqual(answers(line(begin(), begin())), each_one(0, 0))

    def test_a_list_begins_as_behind_begin(self):
        for calls in (
            [add(0), add(0), drop(1), add(2)],
            [drop(0), drop(1), fold(1, 0), add(1)],
            [fold(0, 1), add(0)],
        ):
            without = answers(line(*calls))
            self.assertEqual(answers(line(begin(), *calls)), [1, 0] + without)
        behind = Tree()
        behind.begin()
        self.assertEqual(state(Tree()), state(behind))

    def test_after_other_calls_the_root_is_alone(self):
        calls = line(*chain(5), begin(), drop(1), fold(2, 0), add(3), add(0))
        self.assertEqual(answers(calls), each_one(1, 2, 3, 4, 5, 0, -2, -2, -2, 1))

    def test_begin_with_128_nodes(self):
        calls = line(*chain(127), add(0), begin(), add(0), add(0))
        self.assertEqual(answers(calls)[-8:], each_one(-28, 0, 1, 2))

    def test_after_other_calls_the_root_is_open_and_one_stands_there(self):
        tree = Tree()
        fresh = state(tree)
        tree.add(0)
        tree.add(1)
        tree.standing = 2
        tree.fold(0, 1)
        tree.fold(2, 1)
        self.assertEqual(tree.begin(), 0)
        self.assertEqual(state(tree), fresh)
        self.assertEqual(tree.standing, 0)
        tree.add(0)
        self.assertEqual(shown(tree), [0, 1])

    def test_begin_leaves_a_place_below_the_root(self):
        tree = Tree()
        tree.add(0)
        tree.standing = 1
        tree.begin()
        self.assertEqual(tree.standing, 0)


if __name__ == "__main__":
    unittest.main()
