"""Promises [15] to [17], and [2] and [3] where they speak of who stands how."""

import itertools
import random
import unittest

from helps import drawn_deal, shuffled
from palmhall.stands import gain, pieces, stands


def lot_by_lot(deals, member):
    """By the words of [16], one lot at a time: (closed, open)."""
    mine = [deal for deal in deals if member in deal[:2]]
    mine.sort(key=lambda deal: (
        deal[4], deal[2], deal[0] if deal[1] == member else deal[1], deal[3], 0 if deal[1] == member else 1,
    ))
    lots, closings = [], []
    for number, (seller, buyer, price, count, moment) in enumerate(mine):
        word = "owes" if seller == member else "has"
        for _ in range(count):
            if lots and lots[0][2] != word:
                elder, first, was = lots.pop(0)
                closings.append((number, elder, first, price, "had" if was == "has" else "owed"))
            else:
                lots.append((number, price, word))
    closed = [
        (key[2], key[3], len(list(group)), key[4]) for key, group in itertools.groupby(closings)
    ]
    rows = [(key[1], len(list(group))) for key, group in itertools.groupby(lots)]
    return closed, (lots[0][2] if lots else "nothing", rows)


def stand_by_words(deals, member):
    """By the words of [15]: (lots, coins)."""
    bought = sum(deal[3] for deal in deals if deal[1] == member)
    sold = sum(deal[3] for deal in deals if deal[0] == member)
    got = sum(deal[2] * deal[3] for deal in deals if deal[0] == member)
    paid = sum(deal[2] * deal[3] for deal in deals if deal[1] == member)
    return bought - sold, got - paid


class Stands(unittest.TestCase):
    def check(self, many, deals, wanted):
        before = list(deals)
        told = stands(many, deals)
        self.assertEqual(deals, before)
        self.assertIs(type(told), list)
        self.assertTrue(all(type(row) is tuple for row in told))
        self.assertEqual(told, wanted)

    def test_no_deals(self):
        for many in range(2, 13):
            self.check(many, [], [(0, 0)] * many)

    def test_one_deal(self):
        self.check(2, [(0, 1, 120, 5, 40)], [(-5, 600), (5, -600)])
        self.check(2, [(1, 0, 120, 5, 40)], [(5, -600), (-5, 600)])
        self.check(3, [(2, 0, 0, 5, 0)], [(5, 0), (0, 0), (-5, 0)])
        self.check(12, [(11, 0, 1, 1, 0)], [(1, -1)] + [(0, 0)] * 10 + [(-1, 1)])

    def test_bought_and_sold_again(self):
        deals = [(0, 1, 120, 5, 1), (1, 2, 125, 3, 2), (1, 0, 119, 2, 3)]
        self.check(3, deals, [(-3, 362), (0, 13), (3, -375)])

    def test_great_numbers(self):
        deals = [(0, 1, 10 ** 9, 10 ** 6, 10 ** 9)] * 400
        self.check(2, deals, [(-4 * 10 ** 8, 4 * 10 ** 17), (4 * 10 ** 8, -4 * 10 ** 17)])

    def test_lists_in_any_order(self):
        chance = random.Random(21)
        for many, length in itertools.product((2, 3, 7, 12), (1, 2, 5, 20, 400)):
            deals = [drawn_deal(chance, members=many) for _ in range(length)]
            wanted = [stand_by_words(deals, member) for member in range(many)]
            for _ in range(3):
                self.check(many, shuffled(chance, deals), wanted)
            self.assertEqual(sum(lots for lots, coins in wanted), 0)
            self.assertEqual(sum(coins for lots, coins in wanted), 0)

    def test_all_lots_and_all_coins_come_to_nought(self):
        chance = random.Random(22)
        for _ in range(200):
            told = stands(5, [drawn_deal(chance, members=5) for _ in range(chance.randrange(30))])
            self.assertEqual([sum(part) for part in zip(*told)], [0, 0])

    def test_lists_told_are_new_each_time(self):
        deals = [(0, 1, 120, 5, 40)]
        one, other = stands(2, deals), stands(2, deals)
        one.clear()
        self.assertEqual(other, [(-5, 600), (5, -600)])
        self.assertEqual(stands(2, deals), other)


class Pieces(unittest.TestCase):
    def check(self, deals, member, wanted):
        before = list(deals)
        told = pieces(deals, member)
        self.assertEqual(deals, before)
        self.assertEqual(told, wanted)
        closed, left = told
        self.assertEqual([type(told), type(closed), type(left), type(left[1])], [tuple, list, tuple, list])
        self.assertTrue(all(type(row) is tuple for row in closed + left[1]))

    def test_no_deals(self):
        self.check([], 0, ([], ("nothing", [])))
        self.check([], 11, ([], ("nothing", [])))

    def test_deals_of_others(self):
        self.check([(1, 2, 120, 5, 40), (2, 1, 119, 3, 41)], 0, ([], ("nothing", [])))

    def test_one_deal(self):
        deals = [(0, 1, 120, 5, 40)]
        self.check(deals, 0, ([], ("owes", [(120, 5)])))
        self.check(deals, 1, ([], ("has", [(120, 5)])))

    def test_had_lots_are_sold_the_oldest_first(self):
        deals = [(1, 0, 120, 5, 1), (1, 0, 110, 3, 2), (0, 1, 130, 6, 3)]
        self.check(deals, 0, ([(120, 130, 5, "had"), (110, 130, 1, "had")], ("has", [(110, 2)])))
        self.check(deals, 1, ([(120, 130, 5, "owed"), (110, 130, 1, "owed")], ("owes", [(110, 2)])))

    def test_owed_lots_are_bought_back_the_oldest_first(self):
        deals = [(0, 1, 120, 2, 1), (0, 2, 121, 2, 2), (3, 0, 100, 3, 3), (3, 0, 90, 1, 4)]
        closed = [(120, 100, 2, "owed"), (121, 100, 1, "owed"), (121, 90, 1, "owed")]
        self.check(deals, 0, (closed, ("nothing", [])))

    def test_from_had_to_owed_in_one_deal_and_back(self):
        deals = [(1, 0, 120, 5, 1), (0, 1, 130, 8, 2)]
        self.check(deals, 0, ([(120, 130, 5, "had")], ("owes", [(130, 3)])))
        deals.append((2, 0, 125, 10, 3))
        closed = [(120, 130, 5, "had"), (130, 125, 3, "owed")]
        self.check(deals, 0, (closed, ("has", [(125, 7)])))

    def test_all_closed(self):
        deals = [(1, 0, 120, 5, 1), (0, 2, 120, 5, 2)]
        self.check(deals, 0, ([(120, 120, 5, "had")], ("nothing", [])))

    def test_several_deals_close_one(self):
        deals = [(1, 0, 120, 5, 1), (0, 2, 121, 2, 2), (0, 2, 121, 2, 3)]
        self.check(deals, 0, ([(120, 121, 2, "had"), (120, 121, 2, "had")], ("has", [(120, 1)])))

    def test_of_several_at_one_price_each_is_told(self):
        deals = [(1, 0, 120, 2, 1), (1, 0, 120, 3, 2), (0, 1, 125, 4, 3)]
        self.check(deals, 0, ([(120, 125, 2, "had"), (120, 125, 2, "had")], ("has", [(120, 1)])))
        deals = [(1, 0, 120, 2, 1), (2, 0, 120, 3, 1)]
        self.check(deals, 0, ([], ("has", [(120, 2), (120, 3)])))

    def test_deals_come_by_moments(self):
        deals = [(0, 1, 1, 1, 2), (1, 0, 9, 1, 1)]
        self.check(deals, 0, ([(9, 1, 1, "had")], ("nothing", [])))
        deals = [(0, 1, 1, 1, 1), (1, 0, 9, 1, 2)]
        self.check(deals, 0, ([(1, 9, 1, "owed")], ("nothing", [])))
        deals = [(0, 1, 5, 1, 10), (1, 0, 5, 1, 9)]
        self.check(deals, 0, ([(5, 5, 1, "had")], ("nothing", [])))

    def test_of_one_moment_by_prices(self):
        deals = [(0, 1, 9, 1, 1), (1, 0, 1, 1, 1)]
        self.check(deals, 0, ([(1, 9, 1, "had")], ("nothing", [])))
        deals = [(0, 1, 1, 1, 1), (1, 0, 9, 1, 1)]
        self.check(deals, 0, ([(1, 9, 1, "owed")], ("nothing", [])))
        deals = [(1, 0, 10, 1, 1), (2, 0, 9, 2, 1)]
        self.check(deals, 0, ([], ("has", [(9, 2), (10, 1)])))

    def test_of_one_price_by_the_others_numbers(self):
        deals = [(5, 0, 7, 2, 1), (0, 4, 7, 1, 1)]
        self.check(deals, 0, ([(7, 7, 1, "owed")], ("has", [(7, 1)])))
        deals = [(3, 6, 7, 2, 1), (6, 4, 7, 1, 1)]
        self.check(deals, 6, ([(7, 7, 1, "had")], ("has", [(7, 1)])))
        deals = [(10, 0, 7, 1, 1), (9, 0, 7, 2, 1)]
        self.check(deals, 0, ([], ("has", [(7, 2), (7, 1)])))

    def test_of_one_other_by_counts(self):
        deals = [(4, 0, 7, 2, 1), (0, 4, 7, 1, 1)]
        self.check(deals, 0, ([(7, 7, 1, "owed")], ("has", [(7, 1)])))
        deals = [(4, 0, 7, 10, 1), (4, 0, 7, 9, 1)]
        self.check(deals, 0, ([], ("has", [(7, 9), (7, 10)])))

    def test_of_one_count_what_was_bought_ahead(self):
        deals = [(0, 4, 7, 3, 1), (4, 0, 7, 3, 1)]
        self.check(deals, 0, ([(7, 7, 3, "had")], ("nothing", [])))
        self.check(deals, 4, ([(7, 7, 3, "had")], ("nothing", [])))
        self.check(deals + deals, 0, ([(7, 7, 3, "had")] * 2, ("nothing", [])))

    def test_against_lot_by_lot(self):
        chance = random.Random(23)
        for members, prices, counts, moments in itertools.product((2, 3, 6), (1, 4), (1, 2, 6), (1, 5, 50)):
            for length in (1, 3, 6, 12, 40):
                deals = [drawn_deal(chance, members, prices, counts, moments) for _ in range(length)]
                for member in range(members + 1):
                    wanted = lot_by_lot(deals, member)
                    self.check(deals, member, wanted)
                    self.check(shuffled(chance, deals), member, wanted)

    def test_the_deals_as_they_come_are_told_apart_each(self):
        # Alike deals are deals each: lot_by_lot counts them by their places.
        deals = [(1, 0, 5, 2, 1)] * 3 + [(0, 1, 6, 3, 2)] * 2
        closed = [(5, 6, 2, "had"), (5, 6, 1, "had"), (5, 6, 1, "had"), (5, 6, 2, "had")]
        self.check(deals, 0, (closed, ("nothing", [])))

    def test_400_great_deals(self):
        deals = [(0, 1, 10 ** 9, 10 ** 6, moment) for moment in range(200)]
        deals += [(1, 0, 0, 10 ** 6, 10 ** 9)] * 199
        closed = [(10 ** 9, 0, 10 ** 6, "owed")] * 199
        self.check(deals, 0, (closed, ("owes", [(10 ** 9, 10 ** 6)])))

    def test_lists_told_are_new_each_time(self):
        deals = [(1, 0, 120, 5, 1), (0, 1, 130, 2, 2)]
        wanted = ([(120, 130, 2, "had")], ("has", [(120, 3)]))
        one, other = pieces(deals, 0), pieces(deals, 0)
        one[0].clear()
        one[1][1].clear()
        self.assertEqual(other, wanted)
        self.assertEqual(pieces(deals, 0), wanted)
        pieces([], 0)[1][1].append(1)
        self.assertEqual(pieces([], 0), ([], ("nothing", [])))


class Gains(unittest.TestCase):
    def test_no_deals(self):
        for price in (0, 120, 10 ** 9):
            self.assertEqual(gain([], 0, price), 0)

    def test_open_lots(self):
        deals = [(0, 1, 120, 5, 40)]
        for price in (0, 100, 120, 121, 10 ** 9):
            self.assertEqual(gain(deals, 0, price), 5 * (120 - price))
            self.assertEqual(gain(deals, 1, price), 5 * (price - 120))
            self.assertEqual(gain(deals, 2, price), 0)

    def test_closed_lots_gain_the_same_at_any_price(self):
        had = [(1, 0, 120, 5, 1), (0, 1, 130, 5, 2)]
        owed = [(0, 1, 120, 5, 1), (1, 0, 130, 5, 2)]
        for price in (0, 125, 10 ** 9):
            self.assertEqual((gain(had, 0, price), gain(had, 1, price)), (50, -50))
            self.assertEqual((gain(owed, 0, price), gain(owed, 1, price)), (-50, 50))

    def test_closed_and_open_lots(self):
        deals = [(1, 0, 120, 5, 1), (0, 1, 130, 8, 2)]
        self.assertEqual(gain(deals, 0, 100), 50 + 3 * 30)
        self.assertEqual(gain(deals, 0, 150), 50 - 3 * 20)

    def test_it_is_the_coins_and_for_each_lot_of_the_stand_the_price(self):
        chance = random.Random(24)
        for length in (1, 2, 4, 9, 30, 400):
            for _ in range(20 if length < 400 else 2):
                deals = [drawn_deal(chance, members=4, prices=40) for _ in range(length)]
                before = list(deals)
                for member, price in itertools.product(range(5), (0, 119, 137, 10 ** 9)):
                    lots, coins = stand_by_words(deals, member)
                    self.assertEqual(gain(deals, member, price), coins + lots * price)
                    self.assertEqual(gain(shuffled(chance, deals), member, price), coins + lots * price)
                self.assertEqual(deals, before)

    def test_what_all_gain_comes_to_nought(self):
        chance = random.Random(25)
        deals = [drawn_deal(chance, members=6) for _ in range(50)]
        for price in (0, 118, 200):
            self.assertEqual(sum(gain(deals, member, price) for member in range(6)), 0)


if __name__ == "__main__":
    unittest.main()
