import unittest

from tests.helper import (
    BACK, DOWN, GREATEST, ONWARD, UP, add, asked, at, chain, drop, fold, go, grow, pick, show, told,
)

# 0 has 1, 2, 3 in its row; 2 has 4, 5; 4 has 6.
SMALL = grow((0, 0, 0, 2, 2, 4))
TO = {
    0: [],
    1: [go(DOWN)],
    2: [go(DOWN), go(ONWARD)],
    3: [go(DOWN), go(ONWARD), go(ONWARD)],
    4: [go(DOWN), go(ONWARD), go(DOWN)],
    5: [go(DOWN), go(ONWARD), go(DOWN), go(ONWARD)],
    6: [go(DOWN), go(ONWARD), go(DOWN), go(DOWN)],
}
# Of each node where one comes to by the ways 0 to 3.
REACHED = {
    0: (-2, 1, -2, -2),
    1: (0, -2, 2, -2),
    2: (0, 4, 3, 1),
    3: (0, -2, -2, 2),
    4: (2, 6, 5, -2),
    5: (2, -2, -2, 4),
    6: (4, -2, -2, -2),
}


class Go(unittest.TestCase):
    def test_each_way_from_each_node(self):
        for node, reached in REACHED.items():
            for way in range(4):
                given = told(*SMALL, *TO[node], at(), go(way), at())[-3:]
                stands = node if reached[way] == -2 else reached[way]
                self.assertEqual(given, [node, reached[way], stands], (node, way))

    def test_a_way_above_three(self):
        for way in (4, 5, 7, 255, 2147483648, GREATEST):
            self.assertEqual(told(go(way), at()), [-22, 0], way)
            for node in REACHED:
                given = told(*SMALL, *TO[node], go(way), at())[-2:]
                self.assertEqual(given, [-22, node], (node, way))

    def test_the_root_alone(self):
        for way in range(4):
            self.assertEqual(told(go(way), at()), [-2, 0], way)

    def test_down_from_a_shut_node(self):
        for node in (0, 2, 4):
            given = told(*SMALL, *TO[node], fold(node, 1), go(DOWN), at(), fold(node, 0), go(DOWN), at())[-6:]
            child = REACHED[node][DOWN]
            self.assertEqual(given, [0, -2, node, 0, child, child], node)

    def test_down_from_a_shut_node_without_children(self):
        self.assertEqual(told(fold(0, 1), go(DOWN), add(0), go(DOWN), at()), [0, -2, 1, -2, 0])
        self.assertEqual(told(fold(0, 1), add(0), fold(0, 0), go(DOWN)), [0, 1, 0, 1])

    def test_the_other_ways_from_a_shut_node(self):
        for way in (UP, ONWARD, BACK):
            given = told(*SMALL, *TO[2], fold(2, 1), go(way))[-1]
            self.assertEqual(given, REACHED[2][way], way)

    def test_to_a_shut_node(self):
        self.assertEqual(told(*SMALL, fold(2, 1), *TO[2], go(DOWN), at())[-3:], [2, -2, 2])
        self.assertEqual(told(*SMALL, fold(2, 1), *TO[3], go(BACK), at())[-2:], [2, 2])
        self.assertEqual(told(*SMALL, fold(1, 1), go(DOWN), at())[-2:], [1, 1])

    def test_the_row_is_gone_through_not_the_numbers(self):
        # The row is 2, 3, 1 then.
        again = [add(0), add(0), add(0), drop(1), add(0)]
        given = told(*again, go(DOWN), go(ONWARD), go(ONWARD), go(ONWARD), go(BACK), go(BACK), go(BACK))[5:]
        self.assertEqual(given, [2, 3, 1, -2, 3, 2, -2])

    def test_beside_is_within_the_row_alone(self):
        # 1 and 2 each have children, all in one layer: 3, 4 and 5, 6.
        calls = grow((0, 0, 1, 1, 2, 2))
        self.assertEqual(told(*calls, go(DOWN), go(DOWN), go(ONWARD), go(ONWARD))[-2:], [4, -2])
        self.assertEqual(told(*calls, go(DOWN), go(ONWARD), go(DOWN), go(BACK))[-2:], [5, -2])

    def test_the_first_and_the_last_dropped(self):
        calls = grow((0, 0, 0, 0))
        self.assertEqual(told(*calls, drop(1), go(DOWN), go(BACK))[-2:], [2, -2])
        to_three = [go(DOWN), go(ONWARD), go(ONWARD)]
        self.assertEqual(told(*calls, drop(4), *to_three, go(ONWARD))[-2:], [3, -2])
        self.assertEqual(told(*calls, *to_three, drop(2), go(BACK), go(ONWARD))[-2:], [1, 3])

    def test_a_child_added_is_gone_to(self):
        self.assertEqual(told(go(DOWN), add(0), go(DOWN), go(ONWARD), add(0), go(ONWARD)), [-2, 1, 1, -2, 2, 2])

    def test_down_and_up_a_long_row_of_single_children(self):
        calls = chain(127) + [go(DOWN)] * 128 + [go(UP)] * 128
        self.assertEqual(told(*calls)[127:], list(range(1, 128)) + [-2] + list(range(126, -1, -1)) + [-2])

    def test_on_and_back_in_a_broad_row(self):
        calls = [add(0)] * 127 + [go(DOWN)] + [go(ONWARD)] * 127 + [go(BACK)] * 127
        self.assertEqual(told(*calls)[127:], list(range(1, 128)) + [-2] + list(range(126, 0, -1)) + [-2])

    def test_there_and_back_up_and_down(self):
        # Down and up for every node with children; up and down for every first child.
        for node, reached in REACHED.items():
            if reached[DOWN] != -2:
                self.assertEqual(told(*SMALL, *TO[node], go(DOWN), go(UP), at())[-2:], [node, node])
        for node in (1, 4, 6):
            self.assertEqual(told(*SMALL, *TO[node], go(UP), go(DOWN), at())[-2:], [node, node])

    def test_there_and_back_in_a_row(self):
        for node, reached in REACHED.items():
            if reached[ONWARD] != -2:
                self.assertEqual(told(*SMALL, *TO[node], go(ONWARD), go(BACK), at())[-2:], [node, node])
            if reached[BACK] != -2:
                self.assertEqual(told(*SMALL, *TO[node], go(BACK), go(ONWARD), at())[-2:], [node, node])

    def test_going_changes_nothing_that_is_shown(self):
        seen = asked(*SMALL, show())[-1]
        for node in TO:
            self.assertEqual(asked(*SMALL, *TO[node], show())[-1], seen)

    def test_from_a_picked_node(self):
        # 1, 2 and 3 stand in layer 1, at 0, 2 and 4.
        self.assertEqual(told(*grow((0, 0, 0)), pick(2, 1), go(BACK), go(UP))[-3:], [2, 1, 0])


if __name__ == "__main__":
    unittest.main()
