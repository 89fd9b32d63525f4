"""Promises [13] and [14], and [2] and [3] where they speak of the board."""

import itertools
import random
import unittest

from helps import drawn_print, shuffled
from palmhall.board import board, called_price, lates, rows_of

SIZES = [1, 2, 3, 5, 8, 20, 60, 150, 399, 400]

# (prints as they were put up, late ones, board, rows)
WRITTEN = [
    ([], [], None, []),
    ([(0, 0, 1)], [], ((0, 0), 0, 0, (0, 0), 1), [(0, 0, 0, 1)]),
    ([(40, 120, 5)], [], ((120, 120), 120, 120, (120, 120), 5), [(40, 120, 120, 5)]),
    (
        [(10 ** 9, 10 ** 9, 10 ** 6)], [],
        ((10 ** 9, 10 ** 9), 10 ** 9, 10 ** 9, (10 ** 9, 10 ** 9), 10 ** 6),
        [(10 ** 9, 10 ** 9, 10 ** 9, 10 ** 6)],
    ),
    (
        [(4, 121, 5), (4, 119, 1), (4, 120, 30)], [],
        ((119, 121), 121, 119, (119, 121), 36), [(4, 119, 121, 36)],
    ),
    (
        [(1, 120, 5), (2, 125, 1), (3, 118, 2)], [],
        ((120, 120), 125, 118, (118, 118), 8), [(1, 120, 120, 5), (2, 125, 125, 1), (3, 118, 118, 2)],
    ),
    (
        [(3, 118, 2), (1, 120, 5), (3, 119, 1), (2, 125, 1), (1, 122, 7)], [1, 3, 4],
        ((120, 122), 125, 118, (118, 119), 16), [(1, 120, 122, 12), (2, 125, 125, 1), (3, 118, 119, 3)],
    ),
    (
        [(0, 9, 1), (0, 10, 1), (10, 100, 3), (9, 99, 4)], [3],
        ((9, 10), 100, 9, (100, 100), 9), [(0, 9, 10, 2), (9, 99, 99, 4), (10, 100, 100, 3)],
    ),
]


def lates_by_words(prints):
    return [
        place for place, (moment, price, count) in enumerate(prints)
        if any(ahead[0] > moment for ahead in prints[:place])
    ]


def range_of(prints, moment):
    prices = sorted(print_[1] for print_ in prints if print_[0] == moment)
    return prices[0], prices[-1]


def board_by_words(prints):
    if not prints:
        return None
    moments = sorted(print_[0] for print_ in prints)
    prices = sorted(print_[1] for print_ in prints)
    lots = sum(print_[2] for print_ in prints)
    return range_of(prints, moments[0]), prices[-1], prices[0], range_of(prints, moments[-1]), lots


def rows_by_words(prints):
    return [
        (moment, *range_of(prints, moment), sum(print_[2] for print_ in prints if print_[0] == moment))
        for moment in sorted({print_[0] for print_ in prints})
    ]


def called_by_words(prints, first):
    if not prints:
        return first
    latest = [print_ for print_ in prints if print_[0] == sorted(prints)[-1][0]]
    lots = [
        (sum(print_[2] for print_ in latest if print_[1] == price), price) for price in {row[1] for row in latest}
    ]
    return sorted(lots)[-1][1]


class Board(unittest.TestCase):
    def check(self, prints, late, whole, rows):
        before = list(prints)
        told = lates(prints), board(prints), rows_of(prints)
        self.assertEqual(prints, before)
        self.assertEqual(told, (late, whole, rows), before)
        self.assertEqual([type(told[0]), type(told[2])], [list, list])
        self.assertTrue(all(type(row) is tuple for row in told[2]))
        if prints:
            self.assertEqual([type(part) for part in told[1]], [tuple, int, int, tuple, int])
            self.assertIs(type(told[1]), tuple)
        else:
            self.assertIsNone(told[1])

    def test_as_written(self):
        for prints, late, whole, rows in WRITTEN:
            self.check(prints, late, whole, rows)

    def test_all_orders_of_a_few_moments(self):
        for moments in itertools.product(range(4), repeat=5):
            prints = [(moment, 120 + at * 7 % 5, 1 + at) for at, moment in enumerate(moments)]
            self.check(prints, lates_by_words(prints), board_by_words(prints), rows_by_words(prints))

    def test_late_are_those_behind_any_later_one_not_just_the_next(self):
        self.assertEqual(lates([(5, 1, 1), (3, 1, 1), (4, 1, 1), (5, 1, 1), (6, 1, 1), (5, 1, 1)]), [1, 2, 5])
        self.assertEqual(lates([(at, 1, 1) for at in range(400)]), [])
        self.assertEqual(lates([(at, 1, 1) for at in range(399, -1, -1)]), list(range(1, 400)))
        self.assertEqual(lates([(7, price, 1) for price in range(9, 0, -1)]), [])

    def test_lists_up_to_400(self):
        chance = random.Random(31)
        for many in SIZES:
            for moments in (1, 2, 7, 100, 10 ** 9):
                prints = [drawn_print(chance, moments, 10 ** 9 - 118, 10 ** 6) for _ in range(many)]
                self.check(prints, lates_by_words(prints), board_by_words(prints), rows_by_words(prints))
                prints = [drawn_print(chance, moments) for _ in range(many)]
                self.check(prints, lates_by_words(prints), board_by_words(prints), rows_by_words(prints))

    def test_the_order_changes_nothing_but_what_is_late(self):
        chance = random.Random(32)
        for many in SIZES:
            prints = [drawn_print(chance) for _ in range(many)]
            whole, rows = board(prints), rows_of(prints)
            for _ in range(4):
                order = shuffled(chance, prints)
                self.check(order, lates_by_words(order), whole, rows)
        prints = WRITTEN[6][0]
        for order in itertools.permutations(prints):
            self.assertEqual(board(list(order)), WRITTEN[6][2])
            self.assertEqual(rows_of(list(order)), WRITTEN[6][3])

    def test_lists_told_are_new_each_time(self):
        prints, late, whole, rows = WRITTEN[6]
        for tell, wanted in [(lates, late), (rows_of, rows)]:
            for handed, answer in [(list(prints), wanted), ([], [])]:
                first, second = tell(handed), tell(handed)
                first.append("other")
                self.assertEqual(second, answer)
                self.assertEqual(tell(handed), answer)
                second.clear()
                self.assertEqual(tell(handed), answer)
                answered = tell(handed)
                handed.clear()
                self.assertEqual(answered, answer)


class CalledPrice(unittest.TestCase):
    def check(self, prints, first, wanted):
        before = list(prints)
        self.assertEqual(called_price(prints, first), wanted, before)
        self.assertEqual(called_price(prints, first), wanted, before)
        self.assertEqual(prints, before)

    def test_without_a_print(self):
        for first in (0, 1, 120, 10 ** 8, 10 ** 9, 10 ** 19):
            self.check([], first, first)

    def test_where_one_price_has_most_lots(self):
        self.check([(0, 0, 1)], 120, 0)
        self.check([(4, 125, 3)], 120, 125)
        self.check([(4, 125, 3), (4, 119, 4), (4, 130, 1)], 120, 119)
        self.check([(4, 119, 3), (4, 125, 4), (4, 110, 1)], 120, 125)

    def test_only_the_latest_moment_counts(self):
        self.check([(4, 125, 1), (3, 119, 500)], 120, 125)
        self.check([(3, 119, 500), (4, 125, 1)], 120, 125)
        self.check([(9, 119, 500), (10, 118, 1), (2, 130, 900)], 120, 118)
        # The price with most lots in all, and in the latest moment with those ahead, is another one.
        self.check([(1, 119, 5), (2, 119, 3), (2, 118, 4)], 120, 118)

    def test_of_several_the_highest(self):
        self.check([(4, 125, 3), (4, 119, 3)], 120, 125)
        self.check([(4, 119, 3), (4, 125, 3)], 120, 125)
        self.check([(4, 9, 3), (4, 10, 3), (4, 100, 2)], 120, 10)
        self.check([(4, 121, 2), (4, 119, 1), (4, 119, 1), (4, 118, 1)], 120, 121)

    def test_lots_of_several_prints(self):
        self.check([(4, 119, 2), (4, 125, 3), (4, 119, 2)], 120, 119)
        self.check([(4, 119, 1), (4, 125, 4), (4, 119, 1), (4, 119, 1)], 120, 125)
        self.check([(4, 119, 1), (5, 125, 2), (5, 119, 1), (5, 119, 1)], 120, 125)
        self.check([(4, 119, 9), (5, 125, 2), (5, 119, 1), (5, 119, 2), (4, 130, 50)], 120, 119)

    def test_lists_up_to_400_in_any_order(self):
        chance = random.Random(33)
        for many in SIZES:
            for moments in (1, 2, 5, 10 ** 9):
                prints = [drawn_print(chance, moments) for _ in range(many)]
                wanted = called_by_words(prints, 7)
                for _ in range(4):
                    self.check(shuffled(chance, prints), 7, wanted)

    def test_all_small_lists(self):
        choices = list(itertools.product((0, 1), (118, 119), (1, 2)))
        for many in range(5):
            for prints in itertools.product(choices, repeat=many):
                self.check(list(prints), 500, called_by_words(prints, 500))


if __name__ == "__main__":
    unittest.main()
