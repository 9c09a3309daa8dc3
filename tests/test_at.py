import unittest

from tests.helper import (
    BACK, DOWN, GREATEST, ONWARD, UP, add, asked, at, begin, chain, drop, fold, go, grow, pick, show, told,
)

# 0 has 1, 2, 3 in its row; 2 has 4, 5; 4 has 6.
SMALL = grow((0, 0, 0, 2, 2, 4))
TO_TWO = [go(DOWN), go(ONWARD)]
TO_SIX = TO_TWO + [go(DOWN), go(DOWN)]


def stands_behind(*calls):
    """Where one stands behind the calls on the small tree."""
    return told(*SMALL, *calls, at())[-1]


class At(unittest.TestCase):
    def test_at_the_beginning(self):
        self.assertEqual(told(at()), [0])
        self.assertEqual(told(at(), at(), begin(), at()), [0, 0, 0, 0])

    def test_behind_begin(self):
        self.assertEqual(stands_behind(*TO_SIX), 6)
        self.assertEqual(stands_behind(*TO_SIX, begin()), 0)
        self.assertEqual(stands_behind(*TO_SIX, begin(), *SMALL), 0)

    def test_behind_add(self):
        self.assertEqual(stands_behind(), 0)
        for parent in (0, 2, 4, 6):
            self.assertEqual(stands_behind(*TO_SIX, add(parent)), 6)

    def test_behind_go_and_pick(self):
        self.assertEqual(stands_behind(*TO_TWO), 2)
        self.assertEqual(stands_behind(*TO_TWO, go(UP)), 0)
        self.assertEqual(stands_behind(*TO_TWO, go(BACK)), 1)
        # 2 stands in the middle of its row, the root over it.
        parts = asked(*SMALL, show())
        self.assertEqual(parts[-1][1:4], [0, 0, 2])
        self.assertEqual(stands_behind(pick(2, 1)), 2)
        self.assertEqual(stands_behind(*TO_SIX, pick(3, 0)), 0)

    def test_behind_show(self):
        self.assertEqual(asked(*SMALL, *TO_SIX, show(), at())[-1], [6])

    def test_behind_a_drop_of_the_node_where_one_stands(self):
        self.assertEqual(stands_behind(*TO_SIX, drop(6)), 4)
        self.assertEqual(stands_behind(*TO_SIX, drop(6), drop(4)), 2)
        self.assertEqual(stands_behind(*TO_TWO, drop(2)), 0)

    def test_behind_a_drop_of_a_node_above(self):
        self.assertEqual(stands_behind(*TO_SIX, drop(4)), 2)
        self.assertEqual(stands_behind(*TO_SIX, drop(2)), 0)
        for node in (1, 50, 126):
            calls = chain(127) + [pick(0, 127), drop(node), at()]
            self.assertEqual(told(*calls)[-3:], [127, 128 - node, node - 1])

    def test_behind_a_drop_of_a_node_beside_or_below(self):
        for node in (1, 3, 5):
            self.assertEqual(stands_behind(*TO_SIX, drop(node)), 6)
        for node in (1, 3, 4, 5, 6):
            self.assertEqual(stands_behind(*TO_TWO, drop(node)), 2)

    def test_the_number_dropped_and_taken_again(self):
        calls = SMALL + TO_SIX + [drop(6), add(0), at(), go(DOWN)]
        self.assertEqual(told(*calls)[-4:], [1, 6, 4, -2])

    def test_behind_a_fold_above(self):
        self.assertEqual(stands_behind(*TO_SIX, fold(4, 1)), 4)
        self.assertEqual(stands_behind(*TO_SIX, fold(2, 1)), 2)
        self.assertEqual(stands_behind(*TO_SIX, fold(0, 1)), 0)
        self.assertEqual(stands_behind(*TO_SIX, fold(4, 1), fold(0, 1)), 0)
        for node in (0, 1, 50, 126, 127):
            calls = chain(127) + [pick(0, 127), fold(node, 1), at()]
            self.assertEqual(told(*calls)[-3:], [127, 0, node])

    def test_behind_a_fold_above_and_opened_again(self):
        self.assertEqual(stands_behind(*TO_SIX, fold(2, 1), fold(2, 0)), 2)
        self.assertEqual(stands_behind(*TO_SIX, fold(0, 1), fold(0, 0)), 0)
        self.assertEqual(stands_behind(*TO_SIX, fold(4, 1), fold(2, 1), fold(2, 0)), 2)

    def test_behind_a_fold_elsewhere(self):
        for node in (1, 3, 5, 6):
            self.assertEqual(stands_behind(*TO_SIX, fold(node, 1)), 6)
        for node in (2, 4, 6):
            self.assertEqual(stands_behind(*TO_TWO, fold(node, 1)), 2)

    def test_behind_a_node_opened_or_opened_twice(self):
        for node in range(7):
            self.assertEqual(stands_behind(*TO_SIX, fold(node, 0)), 6)
            self.assertEqual(stands_behind(*TO_TWO, fold(2, 1), fold(node, 0), fold(node, 0)), 2)

    def test_behind_folds_of_what_is_folded_away(self):
        calls = TO_TWO + [fold(2, 1), fold(4, 1), fold(4, 0), drop(6), add(4), drop(4)]
        self.assertEqual(stands_behind(*calls), 2)

    def test_behind_a_refusal(self):
        for refused in (
            add(99), drop(0), drop(99), fold(99, 1), fold(2, 2), go(4), go(GREATEST), go(DOWN), go(ONWARD), go(BACK),
            pick(-1, 0), pick(0, 9), pick(0, GREATEST),
        ):
            given = told(*SMALL, *TO_SIX, refused, at())
            self.assertLess(given[-2], 0)
            self.assertEqual(given[-1], 6, refused)


if __name__ == "__main__":
    unittest.main()
