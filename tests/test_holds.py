"""What holds of all calls together, held against a plainer tree that is slow but easy to follow."""

import random
import unittest

from tests.helper import GREATEST, add, begin, chain, drop, fold, line, shown, state
from walktree.walked import Tree, answers


class PlainTree:
    """All nodes in the order in which they came, each as [number, parent, shut]."""

    def __init__(self):
        self.begin()

    def begin(self):
        self.nodes = [[0, None, 0]]
        self.standing = 0
        return 0

    def find(self, number):
        return [node for node in self.nodes if node[0] == number]

    def above(self, number):
        """The node's parent, that one's parent, and so on."""
        way = []
        while number != 0:
            number = self.find(number)[0][1]
            way.append(number)
        return way

    def add(self, parent):
        if not self.find(parent):
            return -2
        if len(self.nodes) == 128:
            return -28
        number = min(set(range(128)) - {node[0] for node in self.nodes})
        self.nodes.append([number, parent, 0])
        return number

    def drop(self, number):
        if not self.find(number):
            return -2
        if number == 0:
            return -22
        parent = self.find(number)[0][1]
        gone = [node for node in self.nodes if node[0] == number or number in self.above(node[0])]
        if self.standing in [node[0] for node in gone]:
            self.standing = parent
        self.nodes = [node for node in self.nodes if node not in gone]
        return len(gone)

    def fold(self, number, shut):
        if not self.find(number):
            return -2
        if shut > 1:
            return -22
        self.find(number)[0][2] = shut
        if shut == 1 and number in self.above(self.standing):
            self.standing = number
        return 0

    def is_shown(self, number):
        return all(self.find(each)[0][2] == 0 for each in self.above(number))

    def shown(self, number=0):
        below = [node[0] for node in self.nodes if node[1] == number and self.is_shown(node[0])]
        return [number] + [each for child in below for each in self.shown(child)]


NAMES = ("begin", "add", "drop", "fold")


def some_call(source, growing):
    """One call of a kind; the numbers are mostly such as may be there."""
    node = source.choice([source.randrange(8), source.randrange(30), source.randrange(130), GREATEST])
    if source.randrange(200) == 0:
        return begin()
    if source.randrange(10) < growing:
        return add(node)
    if source.randrange(2) == 0:
        return drop(node)
    return fold(node, source.choice([0, 1, 1, 2]))


def some_calls(seed, how_many, growing):
    source = random.Random(seed)
    return [some_call(source, growing) for turn in range(how_many)]


class AgainstThePlainTree(unittest.TestCase):
    def check(self, seed, calls):
        source = random.Random(seed)
        tree, plain = Tree(), PlainTree()
        expected = []
        for call in calls:
            expected += [1, getattr(plain, NAMES[call[0]])(*call[1:])]
            self.assertEqual(getattr(tree, NAMES[call[0]])(*call[1:]), expected[-1], (seed, call))
            self.assertEqual(tree.standing, plain.standing, (seed, call))
            now_shown = plain.shown()
            self.assertEqual(shown(tree), now_shown, (seed, call))
            self.assertIn(tree.standing, now_shown, (seed, call))
            # These calls alone never leave the root, so that one is set down where something is shown.
            if source.randrange(2) == 0:
                tree.standing = plain.standing = source.choice(now_shown)
        self.assertEqual(answers(line(*calls)), expected)

    def test_few_nodes(self):
        for seed in range(20):
            self.check(seed, some_calls(seed, 120, 5))

    def test_many_nodes(self):
        for seed in range(4):
            self.check(seed, chain(40) + some_calls(seed, 200, 8))


class Refusals(unittest.TestCase):
    def check(self, calls, refused, number):
        """Whatever comes behind a refused call is answered as if it had not been asked."""
        without = answers(line(*calls))
        for where in range(len(calls) + 1):
            given = answers(line(*calls[:where], refused, *calls[where:]))
            self.assertEqual(given, without[:2 * where] + [1, number] + without[2 * where:], where)

    def test_nothing_changes(self):
        calls = [add(0), add(1), fold(1, 1), add(0), drop(1), add(3), add(0), drop(3), add(0), add(0), fold(0, 1), add(2)]
        for refused, number in (
            (add(99), -2),
            (add(128), -2),
            (add(GREATEST), -2),
            (drop(99), -2),
            (drop(GREATEST), -2),
            (drop(0), -22),
            (fold(99, 1), -2),
            (fold(99, 2), -2),
            (fold(0, 2), -22),
            (fold(0, GREATEST), -22),
        ):
            self.check(calls, refused, number)

    def test_nothing_changes_with_128_nodes(self):
        full = line(*chain(127))
        behind = line(drop(100), add(5), add(100), drop(5), add(0))
        for refused, number in ((add(0), -28), (add(127), -28), (add(128), -2), (drop(0), -22), (fold(127, 2), -22)):
            given = answers(full + refused + behind)
            without = answers(full + behind)
            self.assertEqual(given, without[:254] + [1, number] + without[254:])


def grown(seed):
    tree = Tree()
    for call in some_calls(seed, 60, 9):
        getattr(tree, NAMES[call[0]])(*call[1:])
    return tree


class FoldedAway(unittest.TestCase):
    def test_folded_and_shown_again_it_is_as_it_was(self):
        for seed in range(10):
            tree = grown(seed)
            for node in sorted(tree.parents):
                if node not in tree.shut:
                    before, seen = state(tree), shown(tree)
                    tree.fold(node, 1)
                    tree.fold(node, 0)
                    self.assertEqual(shown(tree), seen)
                    self.assertEqual(state(tree), before)

    def test_what_is_folded_away_changes_nothing(self):
        for seed in range(10):
            tree = grown(seed)
            top = tree.add(0)
            tree.fold(top, 1)
            tree.standing = top
            seen = shown(tree)
            below = [tree.add(top), tree.add(top)]
            below.append(tree.add(below[0]))
            self.assertEqual((shown(tree), tree.standing), (seen, top))
            tree.fold(below[0], 1)
            self.assertEqual((shown(tree), tree.standing), (seen, top))
            self.assertEqual(tree.drop(below[0]), 2)
            self.assertEqual((shown(tree), tree.standing), (seen, top))


if __name__ == "__main__":
    unittest.main()
