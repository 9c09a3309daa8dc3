import unittest

from tests.helper import GREATEST, add, drop, each_one, fold, line, shown, state
from walktree.walked import Tree, answers


def small_tree():
    """0 has 1, 2 in its row; 1 has 3, 4; 3 has 5."""
    tree = Tree()
    for parent in (0, 0, 1, 1, 3):
        tree.add(parent)
    return tree


class Fold(unittest.TestCase):
    def test_no_such_node(self):
        for node in (1, 127, 128, 255, GREATEST):
            for shut in (0, 1):
                self.assertEqual(answers(fold(node, shut)), [1, -2], node)

    def test_a_dropped_node(self):
        self.assertEqual(answers(line(add(0), drop(1), fold(1, 1))), each_one(1, 1, -2))

    def test_shut_above_one(self):
        for shut in (2, 3, 256, 2147483648, GREATEST):
            self.assertEqual(answers(line(fold(0, shut), add(0), fold(1, shut))), each_one(-22, 1, -22))

    def test_no_such_node_comes_before_shut_above_one(self):
        for node in (1, 128, GREATEST):
            for shut in (2, GREATEST):
                self.assertEqual(answers(fold(node, shut)), [1, -2])

    def test_shut_and_open(self):
        calls = [add(0), add(1), fold(1, 1), fold(1, 0), fold(2, 0), fold(0, 1), fold(0, 0)]
        self.assertEqual(answers(line(*calls)), each_one(1, 2, 0, 0, 0, 0, 0))

    def test_what_is_below_is_folded_away_and_shown(self):
        tree = small_tree()
        self.assertEqual(shown(tree), [0, 1, 3, 5, 4, 2])
        tree.fold(3, 1)
        self.assertEqual(shown(tree), [0, 1, 3, 4, 2])
        tree.fold(1, 1)
        self.assertEqual(shown(tree), [0, 1, 2])
        tree.fold(1, 0)
        self.assertEqual(shown(tree), [0, 1, 3, 4, 2])
        tree.fold(3, 0)
        self.assertEqual(shown(tree), [0, 1, 3, 5, 4, 2])

    def test_folded_twice(self):
        self.assertEqual(answers(line(add(0), fold(1, 1), fold(1, 1), fold(1, 0), fold(1, 0))), each_one(1, 0, 0, 0, 0))
        tree = small_tree()
        tree.fold(1, 1)
        once = state(tree)
        tree.fold(1, 1)
        self.assertEqual(state(tree), once)
        tree.fold(1, 0)
        self.assertEqual(state(tree), state(small_tree()))

    def test_a_node_without_children(self):
        tree = small_tree()
        self.assertEqual(tree.fold(2, 1), 0)
        self.assertEqual(shown(tree), [0, 1, 3, 5, 4, 2])
        tree.add(2)
        self.assertEqual(shown(tree), [0, 1, 3, 5, 4, 2])
        tree.fold(2, 0)
        self.assertEqual(shown(tree), [0, 1, 3, 5, 4, 2, 6])

    def test_the_root_shut(self):
        tree = small_tree()
        tree.standing = 5
        self.assertEqual(tree.fold(0, 1), 0)
        self.assertEqual(shown(tree), [0])
        self.assertEqual(tree.standing, 0)
        tree.fold(0, 0)
        self.assertEqual(shown(tree), [0, 1, 3, 5, 4, 2])
        self.assertEqual(tree.standing, 0)

    def test_one_stood_below_it(self):
        for standing in (3, 4, 5):
            tree = small_tree()
            tree.standing = standing
            tree.fold(1, 1)
            self.assertEqual(tree.standing, 1)

    def test_one_stood_far_below_it(self):
        for node in (0, 1, 64, 126, 127):
            tree = Tree()
            for parent in range(127):
                tree.add(parent)
            tree.standing = 127
            self.assertEqual(tree.fold(node, 1), 0)
            self.assertEqual(tree.standing, node)
            self.assertEqual(shown(tree), list(range(node + 1)))

    def test_one_stood_at_it_or_elsewhere(self):
        for standing, node in ((1, 1), (0, 1), (2, 1), (4, 3), (5, 5), (5, 4), (5, 2)):
            tree = small_tree()
            tree.standing = standing
            tree.fold(node, 1)
            self.assertEqual(tree.standing, standing)

    def test_an_opened_node_moves_nobody(self):
        for standing in (0, 1, 3, 5):
            for node in (0, 1, 3, 5):
                tree = small_tree()
                tree.standing = standing
                tree.fold(node, 0)
                self.assertEqual(tree.standing, standing)

    def test_a_node_that_is_folded_away_is_folded(self):
        tree = small_tree()
        tree.fold(1, 1)
        self.assertEqual(tree.fold(3, 1), 0)
        self.assertEqual(shown(tree), [0, 1, 2])
        tree.fold(1, 0)
        self.assertEqual(shown(tree), [0, 1, 3, 4, 2])

    def test_a_refusal_changes_nothing(self):
        tree = small_tree()
        tree.fold(3, 1)
        tree.standing = 4
        before = state(tree)
        refused = [tree.fold(1, 2), tree.fold(0, GREATEST), tree.fold(3, 2), tree.fold(6, 1), tree.fold(128, 2)]
        self.assertEqual(refused, [-22, -22, -22, -2, -2])
        self.assertEqual(state(tree), before)


if __name__ == "__main__":
    unittest.main()
