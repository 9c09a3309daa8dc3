import unittest

from tests.helper import (
    DOWN, GREATEST, LEFTMOST, ONWARD, RIGHTMOST, add, at, chain, drop, fold, go, grow, pick, shown_behind, told,
)

# 0 has 1, 2 in its row; 1 has 3, 4; 2 has 5.
SMALL = grow((0, 0, 1, 1, 2))
SPOTS = [(0, 0, 3), (1, 1, 1), (3, 2, 0), (4, 2, 2), (2, 1, 5), (5, 2, 5)]
# Of each layer the node that's picked by each x from -2 to 8; None where there's none.
PICKED = {
    0: (None, None, None, None, None, 0, 0, None, None, None, None),
    1: (None, None, None, 1, 1, None, None, 2, 2, None, None),
    2: (None, None, 3, 3, 4, 4, None, 5, 5, None, None),
    3: (None,) * 11,
}
FAR = (LEFTMOST, LEFTMOST + 1, -2147, -2, -1, 9, 100, 2147, RIGHTMOST - 1, RIGHTMOST)


class Pick(unittest.TestCase):
    def test_each_place(self):
        self.assertEqual(shown_behind(*SMALL), SPOTS)
        for y, row in PICKED.items():
            for x, node in zip(range(-2, 9), row):
                expected = [-2, 0] if node is None else [node, node]
                self.assertEqual(told(*SMALL, pick(x, y), at())[-2:], expected, (x, y))

    def test_the_place_and_one_behind_it(self):
        for node, layer, place in SPOTS:
            self.assertEqual(told(*SMALL, pick(place, layer), at())[-2:], [node, node])
            self.assertEqual(told(*SMALL, pick(place + 1, layer), at())[-2:], [node, node])

    def test_between_two_nodes(self):
        # 3 and 4 stand 2 apart: what lies between is of the one before; 4 and 5 stand 3 apart, 1 and 2 four.
        self.assertEqual(told(*SMALL, pick(1, 2), pick(4, 2), at(), pick(3, 1), pick(4, 1), at())[5:],
                         [3, -2, 3, -2, -2, 3])

    def test_a_layer_that_is_not_there(self):
        for y in (3, 4, 127, 128, 2147483648, GREATEST - 1, GREATEST):
            for x in (0, 3, 5):
                self.assertEqual(told(*SMALL, go(DOWN), pick(x, y), at())[-2:], [-2, 1], y)

    def test_to_the_left_and_to_the_right_of_all(self):
        for x in FAR:
            for y in range(3):
                self.assertEqual(told(*SMALL, go(DOWN), pick(x, y), at())[-2:], [-2, 1], (x, y))

    def test_the_root_alone(self):
        self.assertEqual(told(pick(0, 0), pick(1, 0), pick(2, 0), pick(-1, 0), pick(0, 1), at()), [0, 0, -2, -2, -2, 0])

    def test_what_is_folded_away_is_not_picked(self):
        # 3 and 4 folded away: 1 at 0, 2 at 2 with 5 below it, the root at 1.
        shut = SMALL + [fold(1, 1)]
        self.assertEqual(told(*shut, *[pick(x, 2) for x in range(-1, 8)])[6:], [-2, -2, -2, 5, 5, -2, -2, -2, -2])
        self.assertEqual(told(*shut, *[pick(x, 1) for x in range(-1, 8)])[6:], [-2, 1, 1, 2, 2, -2, -2, -2, -2])
        self.assertEqual(told(*shut, fold(1, 0), pick(0, 2))[-1], 3)
        self.assertEqual(told(*SMALL, fold(0, 1), pick(3, 0), pick(0, 0), pick(0, 1), pick(1, 1))[-4:], [-2, 0, -2, -2])

    def test_what_is_folded_away_far_below_is_not_picked(self):
        calls = chain(127) + [fold(60, 1)]
        self.assertEqual(told(*calls, pick(0, 60), pick(0, 61), pick(0, 127), at())[-4:], [60, -2, -2, 60])

    def test_a_shut_node_is_picked(self):
        self.assertEqual(told(*SMALL, fold(1, 1), pick(0, 1), at(), go(DOWN))[-3:], [1, 1, -2])

    def test_what_is_dropped_is_not_picked(self):
        self.assertEqual(told(*SMALL, drop(5), pick(5, 2), pick(0, 2))[-2:], [-2, 3])
        self.assertEqual(told(*SMALL, drop(1), *[pick(0, y) for y in range(4)])[-4:], [0, 2, 5, -2])

    def test_the_number_is_the_nodes_own(self):
        # The row is 2, 3, 1 then, at 0, 2 and 4.
        calls = grow((0, 0, 0)) + [drop(1), add(0)]
        self.assertEqual(told(*calls, pick(0, 1), pick(2, 1), pick(4, 1))[-3:], [2, 3, 1])

    def test_from_there_one_goes_on(self):
        self.assertEqual(told(*SMALL, pick(0, 2), go(ONWARD), go(ONWARD), at())[-4:], [3, 4, -2, 4])

    def test_in_a_long_row_of_single_children(self):
        for y in (0, 1, 64, 127):
            self.assertEqual(told(*chain(127), pick(0, y), pick(2, y), pick(1, y))[-3:], [y, -2, y])
        self.assertEqual(told(*chain(127), pick(0, 128), at())[-2:], [-2, 0])

    def test_in_a_broad_row(self):
        broad = [add(0)] * 127
        self.assertEqual(told(*broad, *[pick(x, 1) for x in range(254)])[127:], [1 + x // 2 for x in range(254)])
        self.assertEqual(told(*broad, pick(254, 1), pick(-1, 1), pick(126, 0), pick(125, 0))[127:], [-2, -2, 0, -2])

    def test_picking_where_one_stands(self):
        self.assertEqual(told(*SMALL, pick(0, 2), pick(0, 2), pick(1, 2), at())[-4:], [3, 3, 3, 3])


if __name__ == "__main__":
    unittest.main()
