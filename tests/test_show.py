import unittest

from tests.helper import (
    DOWN, ONWARD, add, asked, begin, chain, drop, fold, go, grow, pick, show, shown_behind,
)
from walktree.walked import answers


class Show(unittest.TestCase):
    def test_the_root_alone(self):
        self.assertEqual(answers(show()), [4, 1, 0, 0, 0])
        self.assertEqual(answers(begin() + show()), [1, 0, 4, 1, 0, 0, 0])
        self.assertEqual(shown_behind(*chain(9), begin()), [(0, 0, 0)])

    def test_the_form(self):
        self.assertEqual(answers(add(0) + show() + add(0) + show()),
                         [1, 1, 7, 2, 0, 0, 0, 1, 1, 0, 1, 2, 10, 3, 0, 0, 1, 1, 1, 0, 2, 1, 2])

    def test_the_root_shut(self):
        self.assertEqual(shown_behind(fold(0, 1)), [(0, 0, 0)])
        self.assertEqual(shown_behind(add(0), add(0), add(1), fold(0, 1)), [(0, 0, 0)])
        self.assertEqual(shown_behind(*chain(127), fold(0, 1)), [(0, 0, 0)])

    def test_a_long_row_of_single_children(self):
        self.assertEqual(shown_behind(*chain(127)), [(node, node, 0) for node in range(128)])

    def test_127_children_of_the_root(self):
        row = [(node, 1, 2 * node - 2) for node in range(1, 128)]
        self.assertEqual(shown_behind(*[add(0)] * 127), [(0, 0, 126)] + row)

    def test_two_three_and_four_children(self):
        self.assertEqual(shown_behind(add(0), add(0)), [(0, 0, 1), (1, 1, 0), (2, 1, 2)])
        self.assertEqual(shown_behind(*[add(0)] * 3), [(0, 0, 2), (1, 1, 0), (2, 1, 2), (3, 1, 4)])
        self.assertEqual(shown_behind(*[add(0)] * 4), [(0, 0, 3), (1, 1, 0), (2, 1, 2), (3, 1, 4), (4, 1, 6)])

    def test_only_even_moves(self):
        # Below 1 is a node at 1, below 2 one at 0: 3 would be far enough, 4 is the least even number.
        self.assertEqual(shown_behind(*grow((0, 0, 1, 1, 2))),
                         [(0, 0, 3), (1, 1, 1), (3, 2, 0), (4, 2, 2), (2, 1, 5), (5, 2, 5)])

    def test_a_broad_one_beside_a_deep_one(self):
        # 1 has five children, 3 to 7; below 2 are 8, 9 and 10 one below another.
        broad = grow((0, 0, 1, 1, 1, 1, 1, 2, 8, 9))
        self.assertEqual(shown_behind(*broad), [
            (0, 0, 7), (1, 1, 4), (3, 2, 0), (4, 2, 2), (5, 2, 4), (6, 2, 6), (7, 2, 8),
            (2, 1, 10), (8, 2, 10), (9, 3, 10), (10, 4, 10),
        ])
        # The other way about: below 1 are 3, 4 and 5 one below another; 2 has five children, 6 to 10.
        deep = grow((0, 0, 1, 3, 4, 2, 2, 2, 2, 2))
        self.assertEqual(shown_behind(*deep), [
            (0, 0, 3), (1, 1, 0), (3, 2, 0), (4, 3, 0), (5, 4, 0),
            (2, 1, 6), (6, 2, 2), (7, 2, 4), (8, 2, 6), (9, 2, 8), (10, 2, 10),
        ])

    def test_a_deep_one_is_kept_from_behind_a_short_one(self):
        # Below 1 is a deep one that broadens far down; 2 is alone; 3 is deep again and has to keep from 1, past 2.
        calls = grow((0, 0, 0, 1, 4, 4, 4, 3, 8, 8))
        self.assertEqual(shown_behind(*calls), [
            (0, 0, 5), (1, 1, 2), (4, 2, 2), (5, 3, 0), (6, 3, 2), (7, 3, 4),
            (2, 1, 4), (3, 1, 8), (8, 2, 8), (9, 3, 7), (10, 3, 9),
        ])

    def test_a_gap_into_which_a_small_one_would_go(self):
        # 1 and 3 have three children each: between 1 and 3 there's room, and 2 stands as far to the left as it can.
        calls = grow((0, 0, 0, 1, 1, 1, 3, 3, 3))
        self.assertEqual(shown_behind(*calls), [
            (0, 0, 5), (1, 1, 2), (4, 2, 0), (5, 2, 2), (6, 2, 4), (2, 1, 4),
            (3, 1, 8), (7, 2, 6), (8, 2, 8), (9, 2, 10),
        ])

    def test_a_gap_before_what_stands_in_its_layer(self):
        # 3 and 4, below 1, stand 8 apart, for they have four children each; 13, below 2, would go between them, but
        # comes behind 4.
        calls = grow((0, 0, 1, 1, 3, 3, 3, 3, 4, 4, 4, 4, 2))
        self.assertEqual(shown_behind(*calls), [
            (0, 0, 10), (1, 1, 7), (3, 2, 3), (5, 3, 0), (6, 3, 2), (7, 3, 4), (8, 3, 6),
            (4, 2, 11), (9, 3, 8), (10, 3, 10), (11, 3, 12), (12, 3, 14), (2, 1, 13), (13, 2, 13),
        ])

    def test_the_leftmost_of_all_is_not_the_first_child(self):
        # 1 is alone; below 2 there are five, and nothing in their layer keeps them to the right.
        calls = grow((0, 0, 2, 2, 2, 2, 2))
        self.assertEqual(shown_behind(*calls), [
            (0, 0, 3), (1, 1, 2), (2, 1, 4), (3, 2, 0), (4, 2, 2), (5, 2, 4), (6, 2, 6), (7, 2, 8),
        ])

    def test_the_order_is_not_that_of_the_numbers(self):
        # 1 and 2, which is below it, are dropped; then 1 is below 4, and 2 and 5 are below 3.
        calls = grow((0, 1, 0, 0)) + [drop(1), add(4), add(3), add(3)]
        self.assertEqual([part[0] for part in asked(*calls)], [1, 2, 3, 4, 2, 1, 2, 5])
        self.assertEqual(shown_behind(*calls),
                         [(0, 0, 3), (3, 1, 1), (2, 2, 0), (5, 2, 2), (4, 1, 5), (1, 2, 5)])

    def test_a_parent_with_a_greater_number_than_its_children(self):
        calls = grow((0, 0, 0)) + [drop(1), drop(2), add(3), add(1), add(2)]
        self.assertEqual([part[0] for part in asked(*calls)], [1, 2, 3, 1, 1, 1, 2, 4])
        self.assertEqual(shown_behind(*calls), [(0, 0, 0), (3, 1, 0), (1, 2, 0), (2, 3, 0), (4, 4, 0)])

    def test_128_nodes_one_dropped_one_added(self):
        row = [(node, 1, 2 * place) for place, node in enumerate([*range(1, 50), *range(51, 128), 50])]
        self.assertEqual(shown_behind(*[add(0)] * 127, drop(50), add(0)), [(0, 0, 126)] + row)
        self.assertEqual(shown_behind(*chain(127), drop(127), add(0)),
                         [(0, 0, 1)] + [(node, node, 0) for node in range(1, 127)] + [(127, 1, 2)])

    def test_what_is_below_a_shut_node_is_not_shown(self):
        calls = grow((0, 0, 1, 1, 2, 3))
        self.assertEqual(shown_behind(*calls, fold(1, 1)), [(0, 0, 1), (1, 1, 0), (2, 1, 2), (5, 2, 2)])
        self.assertEqual(shown_behind(*calls, fold(3, 1)),
                         [(0, 0, 3), (1, 1, 1), (3, 2, 0), (4, 2, 2), (2, 1, 5), (5, 2, 5)])
        self.assertEqual(shown_behind(*calls, fold(1, 1), fold(2, 1)), [(0, 0, 1), (1, 1, 0), (2, 1, 2)])
        # Open itself, but below a shut one.
        self.assertEqual(shown_behind(*calls, fold(1, 1), fold(3, 0)), [(0, 0, 1), (1, 1, 0), (2, 1, 2), (5, 2, 2)])

    def test_folded_twice(self):
        calls = grow((0, 0, 1, 1))
        self.assertEqual(shown_behind(*calls, fold(1, 1), fold(1, 1)), [(0, 0, 1), (1, 1, 0), (2, 1, 2)])
        self.assertEqual(shown_behind(*calls, fold(1, 1), fold(1, 1), fold(1, 0)), shown_behind(*calls))

    def test_a_node_without_children_shut(self):
        calls = grow((0, 0))
        self.assertEqual(shown_behind(*calls, fold(1, 1)), shown_behind(*calls))
        self.assertEqual(shown_behind(*calls, fold(1, 1), add(1)), shown_behind(*calls))
        self.assertEqual(shown_behind(*calls, fold(1, 1), add(1), fold(1, 0)),
                         [(0, 0, 1), (1, 1, 0), (3, 2, 0), (2, 1, 2)])

    def test_a_number_taken_again_is_open(self):
        calls = [add(0), add(1), fold(1, 1), drop(1), add(0), add(1)]
        self.assertEqual(shown_behind(*calls), [(0, 0, 0), (1, 1, 0), (2, 2, 0)])

    def test_shown_twice_and_whoever_stands_where(self):
        calls = grow((0, 0, 1, 2, 2))
        seen = asked(*calls, show())[-1]
        for between in ([], [show()], [go(DOWN)], [go(DOWN), go(ONWARD), go(DOWN)], [pick(0, 2)]):
            self.assertEqual(asked(*calls, *between, show())[-1], seen)


if __name__ == "__main__":
    unittest.main()
