"""full: point 2 of the promises, as far as it speaks of full."""

import unittest

from helper import (LARGEST, SOME_CELLARS, ask, ask_after, best_by_hand, casks_of, check, every_order, full, kinds,
                    room_of)

CELLAR = kinds((25, 2), (16, 2), (9, 2), (4, 2))
FULLEST = kinds((60, 6), (60, 6), (60, 6), (60, 6))


class LeastRoom(unittest.TestCase):

    def test_no_room_left(self):
        self.assertEqual(ask_after(CELLAR, full(70)), [[0, 4, 1, 2, 1, 0, 1]])

    def test_some_room_left(self):
        self.assertEqual(ask_after(kinds((25, 4)), full(70)), [[5, 3, 1, 3]])
        self.assertEqual(ask_after(kinds((60, 1), (7, 6)), full(45)), [[15, 1, 1, 1, 0]])

    def test_less_room_goes_before_fewer_casks(self):
        self.assertEqual(ask_after(kinds((10, 1), (3, 3)), full(9)), [[0, 3, 1, 0, 3]])

    def test_of_as_little_room_the_fewest_casks(self):
        self.assertEqual(ask_after(kinds((3, 6), (6, 6), (9, 6)), full(9)), [[0, 1, 1, 0, 0, 1]])
        self.assertEqual(ask_after(kinds((9, 6), (6, 6), (3, 6)), full(8)), [[1, 1, 1, 1, 0, 0]])

    def test_several_best_plans_and_the_earliest(self):
        self.assertEqual(ask_after(kinds((3, 2), (4, 2), (5, 2)), full(8)), [[0, 2, 2, 0, 2, 0]])
        self.assertEqual(ask_after(kinds((4, 2), (3, 2), (5, 2)), full(8)), [[0, 2, 2, 0, 1, 1]])

    def test_several_best_plans_with_room_left(self):
        self.assertEqual(ask_after(kinds((30, 2), (20, 2), (10, 2)), full(38)), [[2, 2, 2, 0, 2, 0]])

    def test_longer_plans_of_as_little_room_are_not_among_the_best(self):
        self.assertEqual(ask_after(kinds((4, 1), (2, 2), (1, 4)), full(4)), [[0, 1, 1, 1, 0, 0]])

    def test_two_kinds_of_one_size_make_two_plans(self):
        self.assertEqual(ask_after(kinds((5, 1), (5, 1)), full(5)), [[0, 1, 2, 0, 1]])
        self.assertEqual(ask_after(kinds((5, 3), (5, 2)), full(14)), [[1, 3, 3, 1, 2]])

    def test_the_most_best_plans(self):
        self.assertEqual(ask_after(FULLEST, full(720)), [[0, 12, 231, 0, 0, 6, 6]])

    def test_all_casks(self):
        self.assertEqual(ask_after(FULLEST, full(1440), full(1441)), [[0, 24, 1, 6, 6, 6, 6], [-6]])

    def test_order_1(self):
        self.assertEqual(ask_after(kinds((1, 6)), full(1)), [[0, 1, 1, 1]])
        self.assertEqual(ask_after(kinds((60, 6)), full(1)), [[59, 1, 1, 1]])

    def test_kinds_of_no_casks_are_in_the_plan_as_0(self):
        self.assertEqual(ask_after(kinds((7, 0), (5, 6), (6, 0), (1, 0)), full(7)), [[3, 2, 1, 0, 2, 0, 0]])

    def test_six_in_one_line(self):
        told = ask_after(kinds((6, 1), (4, 1)), *[full(order) for order in (1, 4, 5, 6, 7, 10)])
        self.assertEqual(told, [[3, 1, 1, 0, 1], [0, 1, 1, 0, 1], [1, 1, 1, 1, 0], [0, 1, 1, 1, 0],
                                [3, 2, 1, 1, 1], [0, 2, 1, 1, 1]])


class Refused(unittest.TestCase):

    def test_order_outside_1_to_1500(self):
        for order in (0, 1501, LARGEST):
            with self.subTest(order=order):
                self.assertEqual(ask_after(CELLAR, full(order)), [[-1]])

    def test_no_plan_fills_it(self):
        self.assertEqual(ask_after(CELLAR, full(108), full(109), full(1500)),
                         [[0, 8, 1, 2, 2, 2, 2], [-6], [-6]])

    def test_no_kinds(self):
        self.assertEqual(ask(full(1), full(1500)), [[-6], [-6]])

    def test_kinds_of_no_casks_alone(self):
        self.assertEqual(ask_after(kinds((60, 0), (1, 0)), full(1)), [[-6]])

    def test_a_wrong_order_that_no_plan_fills_either(self):
        self.assertEqual(ask(full(0), full(1501)), [[-1], [-1]])
        self.assertEqual(ask_after(FULLEST, full(1501)), [[-1]])

    def test_all_is_as_it_was(self):
        told = ask_after(CELLAR, full(0), full(1501), full(109), full(70), check(70, [2, 1, 0, 1]), full(70))
        self.assertEqual(told, [[-1], [-1], [-6], [0, 4, 1, 2, 1, 0, 1], [0, 4], [0, 4, 1, 2, 1, 0, 1]])


class EveryOrder(unittest.TestCase):

    def test_some_cellars(self):
        for pairs in SOME_CELLARS:
            orders = every_order(pairs)
            for first in range(0, len(orders), 6):
                some = orders[first:first + 6]
                with self.subTest(pairs=pairs, orders=some):
                    self.assertEqual(ask_after(kinds(*pairs), *[full(order) for order in some]),
                                     [best_by_hand(pairs, order, room_of, casks_of) for order in some])


if __name__ == "__main__":
    unittest.main()
