"""fewest: point 2 of the promises, as far as it speaks of fewest."""

import unittest

from helper import (LARGEST, SOME_CELLARS, ask, ask_after, best_by_hand, casks_of, check, every_order, fewest, full,
                    kinds, room_of)

CELLAR = kinds((25, 2), (16, 2), (9, 2), (4, 2))
FULLEST = kinds((60, 6), (60, 6), (60, 6), (60, 6))


class FewestCasks(unittest.TestCase):

    def test_only_one_plan_is_as_good(self):
        self.assertEqual(ask_after(CELLAR, fewest(70), fewest(50)), [[4, 0, 1, 2, 1, 0, 1], [2, 0, 1, 2, 0, 0, 0]])

    def test_fewer_casks_go_before_less_room(self):
        self.assertEqual(ask_after(CELLAR, fewest(18), full(18)), [[1, 7, 1, 1, 0, 0, 0], [0, 2, 1, 0, 0, 2, 0]])
        self.assertEqual(ask_after(kinds((10, 1), (3, 3)), fewest(9), full(9)), [[1, 1, 1, 1, 0], [0, 3, 1, 0, 3]])

    def test_of_as_few_casks_the_least_room(self):
        self.assertEqual(ask_after(CELLAR, fewest(8), fewest(1)), [[1, 1, 1, 0, 0, 1, 0], [1, 3, 1, 0, 0, 0, 1]])
        self.assertEqual(ask_after(kinds((4, 1), (9, 1), (16, 1)), fewest(10)), [[1, 6, 1, 0, 0, 1]])

    def test_several_best_plans_and_the_earliest(self):
        self.assertEqual(ask_after(kinds((3, 2), (4, 2), (5, 2)), fewest(8)), [[2, 0, 2, 0, 2, 0]])
        self.assertEqual(ask_after(kinds((4, 2), (3, 2), (5, 2)), fewest(8)), [[2, 0, 2, 0, 1, 1]])

    def test_several_best_plans_with_room_left(self):
        self.assertEqual(ask_after(kinds((30, 2), (20, 2), (10, 2)), fewest(38)), [[2, 2, 2, 0, 2, 0]])

    def test_plans_of_more_room_are_not_among_the_best(self):
        self.assertEqual(ask_after(kinds((8, 1), (7, 1), (6, 1)), fewest(5)), [[1, 1, 1, 0, 0, 1]])

    def test_two_kinds_of_one_size_make_two_plans(self):
        self.assertEqual(ask_after(kinds((5, 1), (5, 1)), fewest(5)), [[1, 0, 2, 0, 1]])
        self.assertEqual(ask_after(kinds((5, 3), (5, 2)), fewest(14)), [[3, 1, 3, 1, 2]])

    def test_the_most_best_plans(self):
        self.assertEqual(ask_after(FULLEST, fewest(720)), [[12, 0, 231, 0, 0, 6, 6]])

    def test_all_casks(self):
        self.assertEqual(ask_after(FULLEST, fewest(1440), fewest(1441)), [[24, 0, 1, 6, 6, 6, 6], [-6]])

    def test_order_1(self):
        self.assertEqual(ask_after(kinds((1, 6)), fewest(1)), [[1, 0, 1, 1]])
        self.assertEqual(ask_after(FULLEST, fewest(1)), [[1, 59, 4, 0, 0, 0, 1]])

    def test_kinds_of_no_casks_are_in_the_plan_as_0(self):
        self.assertEqual(ask_after(kinds((7, 0), (5, 6), (6, 0), (1, 0)), fewest(7)), [[2, 3, 1, 0, 2, 0, 0]])

    def test_six_in_one_line(self):
        told = ask_after(kinds((6, 1), (4, 1)), *[fewest(order) for order in (1, 4, 5, 6, 7, 10)])
        self.assertEqual(told, [[1, 3, 1, 0, 1], [1, 0, 1, 0, 1], [1, 1, 1, 1, 0], [1, 0, 1, 1, 0],
                                [2, 3, 1, 1, 1], [2, 0, 1, 1, 1]])

    def test_every_order_of_some_cellars(self):
        for pairs in SOME_CELLARS:
            orders = every_order(pairs)
            for first in range(0, len(orders), 6):
                some = orders[first:first + 6]
                with self.subTest(pairs=pairs, orders=some):
                    self.assertEqual(ask_after(kinds(*pairs), *[fewest(order) for order in some]),
                                     [best_by_hand(pairs, order, casks_of, room_of) for order in some])


class Refused(unittest.TestCase):

    def test_order_outside_1_to_1500(self):
        for order in (0, 1501, LARGEST):
            with self.subTest(order=order):
                self.assertEqual(ask_after(CELLAR, fewest(order)), [[-1]])

    def test_no_plan_fills_it(self):
        self.assertEqual(ask_after(CELLAR, fewest(108), fewest(109), fewest(1500)),
                         [[8, 0, 1, 2, 2, 2, 2], [-6], [-6]])
        self.assertEqual(ask_after(FULLEST, fewest(1500)), [[-6]])

    def test_no_kinds(self):
        self.assertEqual(ask(fewest(1), fewest(1500)), [[-6], [-6]])

    def test_kinds_of_no_casks_alone(self):
        self.assertEqual(ask_after(kinds((60, 0), (1, 0)), fewest(1)), [[-6]])

    def test_a_wrong_order_that_no_plan_fills_either(self):
        self.assertEqual(ask(fewest(0), fewest(1501), fewest(LARGEST)), [[-1]] * 3)
        self.assertEqual(ask_after(FULLEST, fewest(1501)), [[-1]])

    def test_all_is_as_it_was(self):
        told = ask_after(CELLAR, fewest(0), fewest(1501), fewest(109), fewest(18), check(18, [0, 0, 2, 0]), fewest(18),
                         fewest(108), *kinds((1, 1)))
        self.assertEqual(told, [[-1], [-1], [-6], [1, 7, 1, 1, 0, 0, 0], [0, 2], [1, 7, 1, 1, 0, 0, 0],
                                [8, 0, 1, 2, 2, 2, 2], [-5]])


if __name__ == "__main__":
    unittest.main()
