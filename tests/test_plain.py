"""plain: point 2 of the promises, as far as it speaks of plain."""

import unittest

from helper import (LARGEST, SOME_CELLARS, ask, ask_after, check, every_order, full, held_by_hand, kinds, plain,
                    plans_by_hand)

CELLAR = kinds((25, 2), (16, 2), (9, 2), (4, 2))
FULLEST = kinds((60, 6), (60, 6), (60, 6), (60, 6))


def plain_by_hand(pairs, order):
    """What plain is to answer, by going through the casks one by one."""
    casks = sorted((-size, number) for number, (size, many) in enumerate(pairs) for cask in range(many))
    plan = [0] * len(pairs)
    for negative_size, number in casks:
        if -negative_size <= order:
            order += negative_size
            plan[number] += 1
    return [order, sum(plan), *plan]


def ask_plain(pairs, orders):
    """The answers to plain for each of the orders, in lines of no more than 60 calls."""
    told = []
    for first in range(0, len(orders), 50):
        told += ask_after(kinds(*pairs), *[plain(order) for order in orders[first:first + 50]])
    return told


class LargestFirst(unittest.TestCase):

    def test_nothing_is_left(self):
        self.assertEqual(ask_after(CELLAR, plain(70), plain(50)), [[0, 4, 2, 1, 0, 1], [0, 2, 2, 0, 0, 0]])

    def test_something_is_left_though_a_plan_holds_just_the_order(self):
        self.assertEqual(ask_after(kinds((25, 1), (16, 2)), plain(32), full(32)), [[7, 1, 1, 0], [0, 2, 1, 0, 2]])
        self.assertEqual(ask_after(CELLAR, plain(18), full(18)), [[2, 1, 0, 1, 0, 0], [0, 2, 1, 0, 0, 2, 0]])

    def test_something_is_left_where_no_plan_holds_just_the_order(self):
        self.assertEqual(ask_after(CELLAR, plain(28), plain(3)), [[3, 1, 1, 0, 0, 0], [3, 0, 0, 0, 0, 0]])

    def test_two_kinds_of_one_size_go_by_number(self):
        self.assertEqual(ask_after(kinds((9, 1), (9, 3)), plain(20), plain(9)), [[2, 2, 1, 1], [0, 1, 1, 0]])
        self.assertEqual(ask_after(kinds((9, 3), (9, 1)), plain(20), plain(36)), [[2, 2, 2, 0], [0, 4, 3, 1]])
        self.assertEqual(ask_after(kinds((9, 1), (16, 1), (9, 2)), plain(25), plain(34)),
                         [[0, 2, 1, 1, 0], [0, 3, 1, 1, 1]])

    def test_fewer_casks_than_go_into_what_is_left(self):
        self.assertEqual(ask_after(kinds((25, 1), (4, 6)), plain(70)), [[21, 7, 1, 6]])
        self.assertEqual(ask_after(CELLAR, plain(108), plain(109), plain(1500)),
                         [[0, 8, 2, 2, 2, 2], [1, 8, 2, 2, 2, 2], [1392, 8, 2, 2, 2, 2]])

    def test_kinds_not_told_in_the_order_of_their_sizes(self):
        self.assertEqual(ask_after(kinds((4, 2), (25, 2), (9, 2), (16, 2)), plain(70), plain(28)),
                         [[0, 4, 1, 2, 0, 1], [3, 1, 0, 1, 0, 0]])
        self.assertEqual(ask_after(kinds((1, 6), (2, 6), (3, 6), (4, 6)), plain(24), plain(7)),
                         [[0, 6, 0, 0, 0, 6], [0, 2, 0, 0, 1, 1]])

    def test_a_smaller_kind_goes_in_where_a_larger_does_not(self):
        self.assertEqual(ask_after(kinds((60, 6), (30, 6), (7, 6)), plain(29)), [[1, 4, 0, 0, 4]])

    def test_a_kind_that_goes_in_whole_is_taken(self):
        self.assertEqual(ask_after(kinds((60, 6)), plain(59), plain(60), plain(61)), [[59, 0, 0], [0, 1, 1], [1, 1, 1]])

    def test_orders_1_and_1500(self):
        self.assertEqual(ask_after(kinds((2, 1), (1, 1)), plain(1), plain(1500)), [[0, 1, 0, 1], [1497, 2, 1, 1]])
        self.assertEqual(ask_after(FULLEST, plain(1), plain(1500), plain(1440), plain(720)),
                         [[1, 0, 0, 0, 0, 0], [60, 24, 6, 6, 6, 6], [0, 24, 6, 6, 6, 6], [0, 12, 6, 6, 0, 0]])

    def test_no_kinds(self):
        self.assertEqual(ask(plain(1), plain(1500)), [[1, 0], [1500, 0]])

    def test_kinds_of_no_casks(self):
        self.assertEqual(ask_after(kinds((60, 0), (5, 6)), plain(60)), [[30, 6, 0, 6]])
        self.assertEqual(ask_after(kinds((5, 0)), plain(5)), [[5, 0, 0]])

    def test_plain_takes_nothing_away(self):
        self.assertEqual(ask_after(CELLAR, plain(108), plain(108), check(108, [2, 2, 2, 2])),
                         [[0, 8, 2, 2, 2, 2], [0, 8, 2, 2, 2, 2], [0, 8]])

    def test_every_order_of_some_cellars(self):
        for pairs in SOME_CELLARS:
            with self.subTest(pairs=pairs):
                orders = every_order(pairs)
                self.assertEqual(ask_plain(pairs, orders), [plain_by_hand(pairs, order) for order in orders])

    def test_nothing_is_left_of_what_some_plan_holds_if_each_size_goes_whole_into_the_next(self):
        for pairs in (((2, 3), (4, 1), (12, 2), (24, 2)), ((60, 1), (5, 3), (15, 2), (30, 1))):
            with self.subTest(pairs=pairs):
                held = {held_by_hand(pairs, plan) for plan in plans_by_hand(pairs)}
                orders = every_order(pairs)
                self.assertEqual([order for order, told in zip(orders, ask_plain(pairs, orders)) if told[0] == 0],
                                 [order for order in orders if order in held])


class Refused(unittest.TestCase):

    def test_order_outside_1_to_1500(self):
        for order in (0, 1501, LARGEST):
            with self.subTest(order=order):
                self.assertEqual(ask_after(CELLAR, plain(order)), [[-1]])
                self.assertEqual(ask(plain(order)), [[-1]])

    def test_an_order_that_is_not_filled_is_no_refusal(self):
        self.assertEqual(ask_after(kinds((7, 1)), plain(8), full(8)), [[1, 1, 1], [-6]])

    def test_all_is_as_it_was(self):
        told = ask_after(CELLAR, plain(0), plain(1501), plain(LARGEST), plain(70), check(70, [2, 1, 0, 1]), plain(70),
                         *kinds((1, 1)))
        self.assertEqual(told, [[-1], [-1], [-1], [0, 4, 2, 1, 0, 1], [0, 4], [0, 4, 2, 1, 0, 1], [-5]])


if __name__ == "__main__":
    unittest.main()
