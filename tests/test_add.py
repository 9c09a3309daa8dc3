import unittest

from tests.helper import GREATEST, add, chain, drop, each_one, fold, line, shown, state
from walktree.walked import Tree, answers


def full_tree():
    tree = Tree()
    for parent in range(127):
        tree.add(parent)
    return tree


class Add(unittest.TestCase):
    def test_the_numbers_go_up(self):
        self.assertEqual(answers(line(add(0), add(0), add(1), add(3))), each_one(1, 2, 3, 4))

    def test_no_such_parent(self):
        for parent in (1, 2, 127, 128, 255, 2147483648, GREATEST):
            self.assertEqual(answers(add(parent)), [1, -2], parent)

    def test_a_dropped_parent_is_not_there(self):
        calls = line(add(0), add(1), add(0), drop(1), add(2), add(1), add(3))
        self.assertEqual(answers(calls), each_one(1, 2, 3, 2, -2, -2, 1))

    def test_128_nodes_are_there(self):
        for parents in (range(127), [0] * 127, [node // 2 for node in range(127)]):
            calls = line(*[add(parent) for parent in parents])
            full = each_one(*range(1, 128))
            self.assertEqual(answers(calls), full)
            for parent in (0, 1, 126, 127):
                self.assertEqual(answers(calls + add(parent)), full + [1, -28])

    def test_no_such_parent_comes_before_no_room(self):
        for parent in (128, 129, GREATEST):
            calls = line(*chain(127), add(parent), add(0))
            self.assertEqual(answers(calls)[-4:], each_one(-2, -28))

    def test_the_least_free_number_is_taken(self):
        calls = [add(0), add(0), add(0), add(0), drop(3), drop(2), add(0), add(0), add(0)]
        self.assertEqual(answers(line(*calls)), each_one(1, 2, 3, 4, 1, 1, 2, 3, 5))

    def test_several_are_free_in_the_middle(self):
        calls = [add(0), add(1), add(0), add(1), add(0), drop(1), add(5), add(5), add(5), add(5)]
        self.assertEqual(answers(line(*calls)), each_one(1, 2, 3, 4, 5, 3, 1, 2, 4, 6))

    def test_128_nodes_one_dropped_one_added(self):
        for node in (1, 64, 127):
            broad = [add(0)] * 127
            calls = line(*broad, add(0), drop(node), add(0), add(0))
            self.assertEqual(answers(calls)[-8:], each_one(-28, 1, node, -28))

    def test_a_parent_may_have_a_greater_number(self):
        calls = [add(0), add(0), drop(1), add(2), add(1), drop(2)]
        self.assertEqual(answers(line(*calls)), each_one(1, 2, 1, 1, 3, 3))

    def test_the_new_node_is_the_last_in_its_row(self):
        tree = Tree()
        for parent in (0, 0, 0, 2, 2):
            tree.add(parent)
        self.assertEqual(tree.rows[0], [1, 2, 3])
        tree.drop(1)
        self.assertEqual(tree.add(0), 1)
        self.assertEqual(tree.rows[0], [2, 3, 1])
        tree.drop(4)
        self.assertEqual(tree.add(2), 4)
        self.assertEqual(tree.rows[2], [5, 4])
        self.assertEqual(shown(tree), [0, 2, 5, 4, 3, 1])

    def test_the_new_node_is_open(self):
        tree = Tree()
        tree.add(0)
        tree.add(1)
        self.assertEqual(shown(tree), [0, 1, 2])

    def test_a_number_taken_again_is_open_and_has_no_children(self):
        tree = Tree()
        tree.add(0)
        tree.add(1)
        tree.fold(2, 1)
        tree.fold(1, 1)
        tree.drop(1)
        self.assertEqual((tree.add(0), tree.add(1)), (1, 2))
        self.assertEqual(tree.rows[2], [])
        self.assertEqual(tree.add(2), 3)
        self.assertEqual(shown(tree), [0, 1, 2, 3])

    def test_below_a_shut_node(self):
        self.assertEqual(answers(line(add(0), fold(1, 1), add(1), add(2))), each_one(1, 0, 2, 3))
        self.assertEqual(answers(line(fold(0, 1), add(0), add(1))), each_one(0, 1, 2))
        tree = Tree()
        tree.add(0)
        tree.fold(1, 1)
        tree.add(1)
        self.assertEqual(shown(tree), [0, 1])
        tree.fold(1, 0)
        self.assertEqual(shown(tree), [0, 1, 2])

    def test_one_stands_where_one_stood(self):
        tree = Tree()
        tree.add(0)
        tree.standing = 1
        tree.add(0)
        tree.add(1)
        self.assertEqual(tree.standing, 1)

    def test_a_refusal_changes_nothing(self):
        tree = full_tree()
        before = state(tree)
        self.assertEqual([tree.add(0), tree.add(127), tree.add(128), tree.add(GREATEST)], [-28, -28, -2, -2])
        self.assertEqual(state(tree), before)


if __name__ == "__main__":
    unittest.main()
