import unittest

from tests.helper import GREATEST, add, chain, drop, each_one, fold, line, shown, state
from walktree.walked import Tree, answers


def small_tree():
    """0 has 1, 2, 3 in its row; 2 has 4, 5; 4 has 6."""
    tree = Tree()
    for parent in (0, 0, 0, 2, 2, 4):
        tree.add(parent)
    return tree


class Drop(unittest.TestCase):
    def test_no_such_node(self):
        for node in (1, 2, 127, 128, 255, 2147483648, GREATEST):
            self.assertEqual(answers(drop(node)), [1, -2], node)

    def test_a_node_dropped_twice(self):
        self.assertEqual(answers(line(add(0), drop(1), drop(1))), each_one(1, 1, -2))

    def test_what_was_below_is_not_there(self):
        calls = line(*chain(4), drop(2), drop(3), drop(4), fold(3, 1), add(4), drop(1))
        self.assertEqual(answers(calls)[8:], each_one(3, -2, -2, -2, -2, 1))

    def test_the_root(self):
        self.assertEqual(answers(drop(0)), [1, -22])
        self.assertEqual(answers(line(add(0), fold(0, 1), drop(0), add(1))), each_one(1, 0, -22, 2))

    def test_a_node_alone(self):
        self.assertEqual(answers(line(add(0), add(0), drop(2), drop(1))), each_one(1, 2, 1, 1))

    def test_a_long_row_of_single_children(self):
        for node in (1, 2, 64, 126, 127):
            calls = line(*chain(127), drop(node))
            self.assertEqual(answers(calls)[-2:], [1, 128 - node])

    def test_a_broad_one(self):
        calls = line(add(0), *[add(1)] * 126, drop(1), add(0))
        self.assertEqual(answers(calls)[-4:], each_one(127, 1))

    def test_a_branching_one(self):
        # Two children each, six layers below the root: 63 nodes below each child of the root.
        calls = line(*[add(node // 2) for node in range(126)], drop(1), drop(2), add(0))
        self.assertEqual(answers(calls)[-6:], each_one(63, 63, 1))

    def test_what_is_folded_away_counts(self):
        calls = [add(0), add(1), add(1), add(2), fold(1, 1), fold(2, 1), drop(1), drop(2)]
        self.assertEqual(answers(line(*calls))[-4:], each_one(4, -2))

    def test_a_dropped_number_is_free_again(self):
        calls = [add(0), add(1), add(1), add(0), drop(1), add(4), add(4), add(4), add(4)]
        self.assertEqual(answers(line(*calls))[8:], each_one(3, 1, 2, 3, 5))

    def test_the_others_stay_in_their_rows(self):
        tree = small_tree()
        self.assertEqual(tree.drop(4), 2)
        self.assertEqual(shown(tree), [0, 1, 2, 5, 3])
        self.assertEqual(tree.drop(2), 2)
        self.assertEqual(shown(tree), [0, 1, 3])
        self.assertEqual(sorted(tree.parents), [0, 1, 3])

    def test_the_others_stay_open_or_shut(self):
        tree = small_tree()
        tree.fold(4, 1)
        tree.drop(1)
        tree.drop(5)
        self.assertEqual(shown(tree), [0, 2, 4, 3])
        tree.fold(4, 0)
        self.assertEqual(shown(tree), [0, 2, 4, 6, 3])

    def test_one_stood_at_it(self):
        tree = small_tree()
        tree.standing = 6
        tree.drop(6)
        self.assertEqual(tree.standing, 4)
        tree.drop(4)
        self.assertEqual(tree.standing, 2)

    def test_one_stood_below_it(self):
        for node, parent in ((4, 2), (2, 0)):
            tree = small_tree()
            tree.standing = 6
            tree.drop(node)
            self.assertEqual(tree.standing, parent)

    def test_one_stood_far_below_it(self):
        for node in (1, 2, 64, 127):
            tree = Tree()
            for parent in range(127):
                tree.add(parent)
            tree.standing = 127
            self.assertEqual(tree.drop(node), 128 - node)
            self.assertEqual(tree.standing, node - 1)

    def test_one_stood_elsewhere(self):
        for standing, node in ((2, 4), (0, 2), (5, 4), (3, 2), (6, 5), (6, 1)):
            tree = small_tree()
            tree.standing = standing
            tree.drop(node)
            self.assertEqual(tree.standing, standing)

    def test_a_number_taken_again_is_not_where_one_stands(self):
        tree = small_tree()
        tree.standing = 4
        tree.drop(4)
        self.assertEqual(tree.add(2), 4)
        self.assertEqual(tree.standing, 2)

    def test_a_refusal_changes_nothing(self):
        tree = small_tree()
        tree.standing = 6
        before = state(tree)
        self.assertEqual([tree.drop(0), tree.drop(7), tree.drop(128), tree.drop(GREATEST)], [-22, -2, -2, -2])
        self.assertEqual(state(tree), before)


if __name__ == "__main__":
    unittest.main()
