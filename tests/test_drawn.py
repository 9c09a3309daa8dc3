"""What is shown is drawn tidily: what T promises, asked of many trees, and held against a slow and plain drawing."""

import random
import unittest

from tests.helper import (
    add, asked, children_of, drop, fold, grow, plain_drawing, plain_layer, show, shown_behind,
)


def below(parents, node):
    """The node itself and what's below its children."""
    found = [node]
    for each in range(node + 1, len(parents)):
        if parents[each] in found:
            found.append(each)
    return found


def all_trees(most):
    """Every tree of at most so many nodes, numbered in the order in which they're come to from the root."""
    trees = [[255]]
    for parents in trees:
        if len(parents) < most:
            # A next node hangs on the last one, or on one of those above it.
            above = len(parents) - 1
            while above != 255:
                trees.append(parents + [above])
                above = parents[above]
    return trees


def some_tree(seed):
    """A tree by chance; a seed is always the same tree."""
    source = random.Random(seed)
    count = source.choice([source.randint(1, 12), source.randint(10, 60), source.randint(100, 128), 128])
    near = source.choice([1, 2, 4, 10, 30, 128])
    first = source.random() < 0.3
    parents = [255]
    for node in range(1, count):
        reach = min(near, node)
        parents.append(source.randrange(reach) if first else node - 1 - source.randrange(reach))
    return parents


def in_order(parents):
    """The nodes as they're come to from the root, children in order."""
    found = []
    waiting = [0]
    while waiting:
        node = waiting.pop()
        found.append(node)
        waiting.extend(reversed(children_of(parents, node)))
    return found


def shape(parents, node):
    return "(" + "".join(shape(parents, child) for child in children_of(parents, node)) + ")"


def drawn(parents):
    """Of each node its layer and its place as the program shows them, and the order in which it does."""
    found = shown_behind(*grow(parents[1:]))
    spots = {node: (layer, place) for node, layer, place in found}
    return spots, [node for node, layer, place in found]


TREES = all_trees(7) + [some_tree(seed) for seed in range(60)]


class Tidily(unittest.TestCase):
    @classmethod
    def setUpClass(cls):
        cls.drawings = [(parents, *drawn(parents)) for parents in TREES]

    def test_the_trees_are_many_and_of_many_kinds(self):
        self.assertEqual(len(all_trees(7)), 1 + 1 + 2 + 5 + 14 + 42 + 132)
        self.assertTrue([parents for parents in TREES if len(parents) == 128])
        layers = [max(plain_layer(parents, node) for node in range(len(parents))) for parents in TREES[197:]]
        self.assertLess(min(layers), 4)
        self.assertGreater(max(layers), 50)

    def test_all_are_shown_in_the_order_told(self):
        for parents, spots, order in self.drawings:
            self.assertEqual(order, in_order(parents))
            self.assertEqual(len(spots), len(parents))

    def test_layers(self):
        for parents, spots, order in self.drawings:
            for node in order:
                self.assertEqual(spots[node][0], plain_layer(parents, node))

    def test_the_leftmost_of_all_is_at_nought(self):
        for parents, spots, order in self.drawings:
            self.assertEqual(min(place for layer, place in spots.values()), 0, parents)

    def test_nothing_too_near(self):
        for parents, spots, order in self.drawings:
            last = {}
            for node in order:
                layer, place = spots[node]
                if layer in last:
                    self.assertGreaterEqual(place, last[layer] + 2, (parents, node))
                last[layer] = place

    def test_in_the_middle(self):
        for parents, spots, order in self.drawings:
            for node in order:
                row = children_of(parents, node)
                if row:
                    self.assertEqual(2 * spots[node][1], spots[row[0]][1] + spots[row[-1]][1], (parents, node))

    def test_the_same_looks_the_same(self):
        for parents, spots, order in self.drawings:
            looks = {}
            for node in order:
                within = [each for each in order if each in set(below(parents, node))]
                seen = [spots[each][1] - spots[node][1] for each in within]
                self.assertEqual(looks.setdefault(shape(parents, node), seen), seen, (parents, node))

    def test_no_looser_than_it_must(self):
        for parents, spots, order in self.drawings:
            for node in order:
                before = []
                for child in children_of(parents, node):
                    own = below(parents, child)
                    if before:
                        self.assertTrue(self.too_near(spots, before, own), (parents, child))
                    before += own

    def too_near(self, spots, before, own):
        """Whether own, 2 places further to the left, would be too near to something before it."""
        rightmost = {}
        for node in before:
            layer, place = spots[node]
            rightmost[layer] = max(place, rightmost.get(layer, place))
        return any(
            spots[node][0] in rightmost and spots[node][1] - 2 < rightmost[spots[node][0]] + 2 for node in own
        )

    def test_the_same_as_plainly_drawn(self):
        for parents, spots, order in self.drawings:
            plain = plain_drawing(parents)
            self.assertEqual([spots[node] for node in range(len(parents))], plain, parents)


class Elsewhere(unittest.TestCase):
    def test_the_same_shape_at_other_layers(self):
        # The same below the root, below a child of it, and below a child's child.
        part = (0, 0, 0, 1, 1, 3, 3, 3, 4)
        alone = shown_behind(*grow(part))
        root = alone[0][2]
        for depth in (1, 2, 5):
            calls = grow(range(depth)) + grow([parent + depth for parent in part])
            given = [spot for spot in shown_behind(*calls) if spot[0] >= depth]
            top = given[0][2]
            self.assertEqual([(node - depth, layer - depth, place - top) for node, layer, place in given],
                             [(node, layer, place - root) for node, layer, place in alone])

    def test_twice_beside_one_another(self):
        # 1 and 2 have three children each, the middle one of them two.
        calls = grow((0, 0, 1, 1, 1, 2, 2, 2, 4, 4, 7, 7))
        places = {node: place for node, layer, place in shown_behind(*calls)}
        self.assertEqual([places[node] - places[1] for node in (3, 4, 5, 9, 10)], [-2, 0, 2, -1, 1])
        self.assertEqual([places[node] - places[2] for node in (6, 7, 8, 11, 12)], [-2, 0, 2, -1, 1])

    def test_what_is_shown_is_drawn_as_if_it_were_all(self):
        # The tree with nodes folded away is drawn as the tree in which they were never there.
        for seed in range(30):
            parents = some_tree(seed)
            source = random.Random(seed)
            shut = sorted(source.sample(range(len(parents)), min(len(parents), 4)))
            calls = grow(parents[1:])
            folded = shown_behind(*calls, *[fold(node, 1) for node in shut])
            gone = [child for node in shut for child in children_of(parents, node)]
            given = asked(*calls, *[drop(node) for node in gone], show())
            self.assertEqual([given[-1][0]] + [number for spot in folded for number in spot], given[-1])

    def test_folded_and_shown_again(self):
        for seed in range(30):
            parents = some_tree(seed)
            calls = grow(parents[1:])
            source = random.Random(seed)
            for node in source.sample(range(len(parents)), min(len(parents), 5)):
                given = asked(*calls, show(), fold(node, 1), show(), fold(node, 0), show())
                self.assertEqual(given[-1], given[-5])
                self.assertEqual(given[-3][0], len(parents) - len(below(parents, node)) + 1)

    def test_what_is_folded_away_changes_nothing(self):
        for seed in range(30):
            parents = some_tree(seed)[:100]
            source = random.Random(seed)
            top = source.randrange(len(parents))
            calls = grow(parents[1:]) + [fold(top, 1), show()]
            within = below(parents, top)
            for turn in range(20):
                calls += [add(source.choice(within)), show()]
            for node in within[1:]:
                calls += [drop(node), show()]
            given = asked(*calls[:400])
            shows = [part for call, part in zip(calls, given) if call == show()]
            self.assertGreater(len(shows), 20)
            self.assertEqual([part for part in shows if part != shows[0]], [])


if __name__ == "__main__":
    unittest.main()
