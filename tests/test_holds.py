"""What holds of all calls together, held against a plainer tree that is slow but easy to follow."""

import random
import unittest

from tests.helper import (
    BACK, DOWN, GREATEST, LEFTMOST, ONWARD, RIGHTMOST, UP, add, asked, at, begin, chain, drop, fold, go, grow, line,
    parted, pick, plain_drawing, show, shown, shown_behind, spots, state, told,
)
from walktree.walked import Tree, answers


class PlainTree:
    """All nodes in the order in which they came, each as [number, parent, shut]."""

    def __init__(self):
        self.begin()

    def begin(self):
        self.nodes = [[0, None, 0]]
        self.standing = 0
        return 0

    def find(self, number):
        return [node for node in self.nodes if node[0] == number]

    def above(self, number):
        """The node's parent, that one's parent, and so on."""
        way = []
        while number != 0:
            number = self.find(number)[0][1]
            way.append(number)
        return way

    def add(self, parent):
        if not self.find(parent):
            return -2
        if len(self.nodes) == 128:
            return -28
        number = min(set(range(128)) - {node[0] for node in self.nodes})
        self.nodes.append([number, parent, 0])
        return number

    def drop(self, number):
        if not self.find(number):
            return -2
        if number == 0:
            return -22
        parent = self.find(number)[0][1]
        gone = [node for node in self.nodes if node[0] == number or number in self.above(node[0])]
        if self.standing in [node[0] for node in gone]:
            self.standing = parent
        self.nodes = [node for node in self.nodes if node not in gone]
        return len(gone)

    def fold(self, number, shut):
        if not self.find(number):
            return -2
        if shut > 1:
            return -22
        self.find(number)[0][2] = shut
        if shut == 1 and number in self.above(self.standing):
            self.standing = number
        return 0

    def is_shown(self, number):
        return all(self.find(each)[0][2] == 0 for each in self.above(number))

    def row(self, number):
        """The children in their row: whoever came later stands behind, whatever its number."""
        return [node[0] for node in self.nodes if node[1] == number]

    def shown(self, number=0):
        below = [child for child in self.row(number) if self.is_shown(child)]
        return [number] + [each for child in below for each in self.shown(child)]

    def go(self, way):
        if way > 3:
            return -22
        row = [] if self.standing == 0 else self.row(self.find(self.standing)[0][1])
        if way == 0:
            there = self.above(self.standing)[:1]
        elif way == 1:
            there = [child for child in self.row(self.standing) if self.is_shown(child)][:1]
        elif way == 2:
            there = [other for node, other in zip(row, row[1:]) if node == self.standing]
        else:
            there = [node for node, other in zip(row, row[1:]) if other == self.standing]
        if not there:
            return -2
        self.standing = there[0]
        return self.standing

    def drawn(self):
        """Triples of each shown node's number, layer and place, by way of a tree as T has them."""
        order = self.shown()
        parents = [255] + [order.index(self.find(number)[0][1]) for number in order[1:]]
        return [(number, *spot) for number, spot in zip(order, plain_drawing(parents))]

    def pick(self, x, y):
        there = [number for number, layer, place in self.drawn() if layer == y and (place == x or place == x - 1)]
        if not there:
            return -2
        self.standing = there[0]
        return self.standing

    def at(self):
        return self.standing

    def show(self):
        found = self.drawn()
        return [len(found)] + [number for spot in found for number in spot]


NAMES = ("begin", "add", "drop", "fold", "go", "pick", "at", "show")


def some_call(source, growing):
    """One call of begin, add, drop or fold; the numbers are mostly such as may be there."""
    node = source.choice([source.randrange(4), source.randrange(8), source.randrange(16), source.randrange(130)])
    if source.randrange(200) == 0:
        return begin()
    if source.randrange(20) == 0:
        node = GREATEST
    if source.randrange(10) < growing:
        return add(node)
    if source.randrange(3) == 0:
        return drop(node)
    # The root is opened more often than not: else hardly anything is shown.
    return fold(node, source.choice([0, 0, 0, 1, 2] if node == 0 else [0, 1, 1, 2]))


def some_walk(source):
    """One call of go, pick, at or show."""
    kind = source.randrange(8)
    if kind < 4:
        return go(source.choice([UP, DOWN, DOWN, DOWN, ONWARD, ONWARD, ONWARD, BACK, BACK, 4, GREATEST]))
    if kind < 6:
        x = source.choice([source.randrange(-2, 8), source.randrange(12), source.randrange(30), LEFTMOST, RIGHTMOST])
        return pick(x, source.choice([1, 2, source.randrange(5), source.randrange(5), GREATEST]))
    return at() if kind == 6 else show()


def some_calls(seed, how_many, growing):
    source = random.Random(seed)
    return [some_call(source, growing) for turn in range(how_many)]


def some_of_all_calls(seed, how_many, growing):
    source = random.Random(seed)
    first = [add(source.randrange(turn // 2 + 1)) for turn in range(20)]
    return first + [
        some_walk(source) if source.randrange(2) else some_call(source, growing) for turn in range(how_many - 20)
    ]


class AgainstThePlainTree(unittest.TestCase):
    def check(self, seed, calls):
        plain = PlainTree()
        expected = []
        for call in calls:
            given = getattr(plain, NAMES[call[0]])(*call[1:])
            expected.append(given if call == show() else [given])
        self.assertEqual(asked(*calls), expected, seed)

    def test_all_eight_calls(self):
        for seed in range(60):
            self.check(seed, some_of_all_calls(seed, 200, 7))

    def test_where_one_stands_behind_each_call(self):
        for seed in range(40):
            calls = some_of_all_calls(seed, 100, 7)
            self.check(seed, [each for call in calls for each in (call, at())])

    def test_what_is_shown_behind_each_call(self):
        for seed in range(20):
            calls = some_of_all_calls(seed, 100, 8)
            self.check(seed, [each for call in calls for each in (call, at(), show())])

    def test_many_nodes(self):
        for seed in range(4):
            self.check(seed, chain(40) + some_of_all_calls(seed, 200, 9))

    def test_the_calls_are_of_all_kinds(self):
        calls = [call for seed in range(60) for call in some_of_all_calls(seed, 200, 7)]
        self.assertEqual({call[0] for call in calls}, set(range(8)))
        given = [part for seed in range(60) for part in asked(*some_of_all_calls(seed, 200, 7))]
        for kind in (4, 5):
            found = [part[0] for call, part in zip(calls, given) if call[0] == kind]
            self.assertGreater(len([number for number in found if number > 0]), 100)
            self.assertGreater(len([number for number in found if number < 0]), 100)


class Standing(unittest.TestCase):
    def test_one_stands_where_something_is_shown(self):
        for seed in range(40):
            calls = some_of_all_calls(seed, 130, 7)
            given = asked(*[each for call in calls for each in (call, at(), show())])
            for here in range(1, len(given), 3):
                self.assertIn(given[here][0], [node for node, layer, place in spots(given[here + 1])])

    def test_there_and_back(self):
        for seed in range(40):
            calls = some_of_all_calls(seed, 150, 8)
            for way, back in ((DOWN, UP), (ONWARD, BACK), (BACK, ONWARD)):
                here, there, again = [part[0] for part in asked(*calls, at(), go(way), go(back))[-3:]]
                if there != -2:
                    self.assertEqual(again, here)

    def test_every_child_up_and_back(self):
        # Up from a child, then down and along the row as far as the child stands in it.
        calls = grow((0, 0, 0, 2, 2, 2, 5, 5))
        for steps in range(3):
            along = [go(DOWN)] + [go(ONWARD)] * steps
            for top in ([], [go(DOWN), go(ONWARD)]):
                given = told(*calls, *top, *along, at(), go(UP), *along, at())
                self.assertEqual(given[-1], given[-1 - len(along) - 2])


class Refusals(unittest.TestCase):
    # All eight calls, none of them refused.
    CALLS = [
        add(0), add(1), at(), show(), fold(1, 1), go(DOWN), add(0), go(ONWARD), drop(1), add(3), show(), pick(0, 1),
        add(0), go(DOWN), at(), fold(3, 1), at(), drop(3), show(), begin(), add(0), add(1), add(1), pick(2, 2), at(),
        go(BACK), fold(0, 1), show(), at(), fold(0, 0), add(2), show(),
    ]

    def check(self, calls, refused, number):
        """At and show tell the same before and behind a refused call, and whatever comes behind it is answered as if
        it had not been asked."""
        without = asked(*calls)
        for where in range(len(calls) + 1):
            told_here = [at(), show(), refused, at(), show()]
            given = asked(*calls[:where], *told_here, *calls[where:])
            self.assertEqual(given[where + 2], [number], (refused, where))
            self.assertEqual(given[where:where + 2], given[where + 3:where + 5], (refused, where))
            self.assertEqual(given[:where] + given[where + 5:], without, (refused, where))

    def test_these_are_all_eight_calls_and_not_refused(self):
        self.assertEqual({call[0] for call in self.CALLS}, set(range(8)))
        self.assertGreaterEqual(min(part[0] for part in asked(*self.CALLS)), 0)

    def test_nothing_changes(self):
        for refused, number in (
            (add(99), -2),
            (add(128), -2),
            (add(GREATEST), -2),
            (drop(99), -2),
            (drop(GREATEST), -2),
            (drop(0), -22),
            (fold(99, 1), -2),
            (fold(99, 2), -2),
            (fold(0, 2), -22),
            (fold(0, GREATEST), -22),
            (go(4), -22),
            (go(GREATEST), -22),
            (pick(LEFTMOST, 0), -2),
            (pick(-1, 1), -2),
            (pick(RIGHTMOST, 0), -2),
            (pick(0, 9), -2),
            (pick(0, GREATEST), -2),
        ):
            self.check(self.CALLS, refused, number)

    def test_nothing_changes_wherever_a_call_is_refused(self):
        # go's refusals hang on where one stands: whichever call is refused, and wherever.
        refusals = {}
        for seed in range(60):
            calls = some_of_all_calls(seed, 130, 7)
            given = asked(*[each for call in calls for each in (at(), show(), call)], at(), show())
            for turn, call in enumerate(calls):
                here = 3 * turn
                if call not in (at(), show()) and given[here + 2][0] < 0:
                    self.assertEqual(len(given[here + 2]), 1)
                    self.assertEqual(given[here:here + 2], given[here + 3:here + 5], (seed, call))
                    refusals[call[0], given[here + 2][0]] = True
        self.assertEqual(sorted(refusals), [(1, -2), (2, -22), (2, -2), (3, -22), (3, -2), (4, -22), (4, -2), (5, -2)])

    def test_nothing_changes_with_128_nodes(self):
        full = line(*chain(127))
        behind = [at(), show(), drop(100), add(5), add(100), drop(5), add(0), at(), show()]
        without = parted(answers(full + line(*behind)))
        for refused, number in (
            (add(0), -28), (add(127), -28), (add(128), -2), (drop(0), -22), (drop(128), -2), (fold(127, 2), -22),
            (fold(128, 1), -2), (go(4), -22), (go(UP), -2), (go(ONWARD), -2), (go(BACK), -2), (pick(2, 0), -2),
            (pick(0, 128), -2),
        ):
            given = parted(answers(full + line(at(), show(), refused, *behind)))
            self.assertEqual(given[127:130], without[127:129] + [[number]])
            self.assertEqual(given[130:], without[127:])


def grown(seed):
    tree = Tree()
    for call in some_calls(seed, 60, 9):
        getattr(tree, NAMES[call[0]])(*call[1:])
    return tree


class FoldedAway(unittest.TestCase):
    def test_folded_and_shown_again_it_is_as_it_was(self):
        for seed in range(10):
            tree = grown(seed)
            for node in sorted(tree.parents):
                if node not in tree.shut:
                    before, seen = state(tree), shown(tree)
                    tree.fold(node, 1)
                    tree.fold(node, 0)
                    self.assertEqual(shown(tree), seen)
                    self.assertEqual(state(tree), before)

    def test_what_is_folded_away_changes_nothing(self):
        for seed in range(10):
            tree = grown(seed)
            top = tree.add(0)
            tree.fold(top, 1)
            tree.standing = top
            seen = shown(tree)
            below = [tree.add(top), tree.add(top)]
            below.append(tree.add(below[0]))
            self.assertEqual((shown(tree), tree.standing), (seen, top))
            tree.fold(below[0], 1)
            self.assertEqual((shown(tree), tree.standing), (seen, top))
            self.assertEqual(tree.drop(below[0]), 2)
            self.assertEqual((shown(tree), tree.standing), (seen, top))

    def test_all_that_is_shown_is_as_it_was_each_in_its_place(self):
        for seed in range(20):
            calls = some_calls(seed, 60, 9)
            seen = shown_behind(*calls)
            for node, layer, place in seen:
                if told(*calls, pick(place, layer), go(DOWN))[-1] != -2:
                    away = shown_behind(*calls, fold(node, 1))
                    self.assertNotEqual(away, seen)
                    self.assertEqual(shown_behind(*calls, fold(node, 1), fold(node, 0)), seen)
                    self.assertEqual(shown_behind(*calls, fold(node, 1), fold(node, 1), add(node)), away)


if __name__ == "__main__":
    unittest.main()
