"""Promise [12], and [2] and [3] where they speak of how cards fit."""

import itertools
import random
import unittest

from helps import quarrel_by_words
from palmhall.errors import HallError, Unlike
from palmhall.fits import best_fit


def one(side, price, count):
    return (7, 3, side, price, count, 40)


def other(side, price, count):
    return (3, 7, side, price, count, 40)


def drawn_cards(chance, make, many, prices, counts, sides=("bought", "sold")):
    """So many cards that belong together with those of the other list; few choices make many ties."""
    return [
        make(chance.choice(sides), 118 + chance.randrange(prices), 1 + chance.randrange(counts)) for _ in range(many)
    ]


def all_rows(many, others):
    """Every way to put places together, each a rising list of pairs."""
    for size in range(min(many, others) + 1):
        for places in itertools.combinations(range(many), size):
            for partners in itertools.permutations(range(others), size):
                yield list(zip(places, partners))


def fit_by_search(ones, others):
    """The least (cost, rows) of all ways."""
    quarrels = [[len(quarrel_by_words(a, b)) for b in others] for a in ones]
    cards = len(ones) + len(others)
    return min(
        (sum(quarrels[a][b] for a, b in rows) + 2 * (cards - 2 * len(rows)), rows)
        for rows in all_rows(len(ones), len(others))
    )


class BestFit(unittest.TestCase):
    def check(self, ones, others, wanted):
        before = list(ones), list(others)
        told = best_fit(ones, others)
        self.assertEqual((ones, others), before)
        self.assertIs(type(told), tuple)
        self.assertEqual([type(part) for part in told], [int, list])
        self.assertTrue(all(type(row) is tuple for row in told[1]))
        self.assertEqual(told, wanted, before)

    def check_by_search(self, ones, others):
        self.check(ones, others, fit_by_search(ones, others))

    def test_empty_lists(self):
        self.check([], [], (0, []))
        for many in range(1, 8):
            self.check([one("sold", 120, 5)] * many, [], (2 * many, []))
            self.check([], [other("sold", 120, 5)] * many, (2 * many, []))

    def test_cards_of_an_empty_list_need_belong_to_none(self):
        cards = [(0, 1, "sold", 5, 5, 0), (2, 3, "sold", 5, 5, 0), (0, 1, "sold", 5, 5, 1)]
        self.check(cards, [], (6, []))
        self.check([], cards, (6, []))

    def test_one_and_one(self):
        self.check([one("sold", 120, 5)], [other("bought", 120, 5)], (0, [(0, 0)]))
        self.check([one("sold", 120, 5)], [other("sold", 120, 5)], (1, [(0, 0)]))
        self.check([one("sold", 120, 5)], [other("bought", 121, 6)], (2, [(0, 0)]))
        # A row that quarrels in all parts costs 3, and two cards in no row 4.
        self.check([one("sold", 120, 5)], [other("sold", 121, 6)], (3, [(0, 0)]))

    def test_cards_in_no_row_cost_two_each(self):
        cards = [other("bought", 121, 5), other("bought", 120, 5), other("sold", 120, 6)]
        self.check([one("sold", 120, 5)], cards, (4, [(0, 1)]))
        turned = [one("bought", 121, 5), one("bought", 120, 5), one("sold", 120, 6)]
        self.check(turned, [other("sold", 120, 5)], (4, [(1, 0)]))

    def test_of_several_the_least_rows(self):
        same = [one("sold", 120, 5)] * 3
        self.check(same, [other("bought", 120, 5)] * 3, (0, [(0, 0), (1, 1), (2, 2)]))
        self.check(same, [other("bought", 120, 5)] * 2, (2, [(0, 0), (1, 1)]))
        self.check(same[:2], [other("bought", 120, 5)] * 3, (2, [(0, 0), (1, 1)]))
        self.check(same, [other("sold", 121, 6)] * 3, (9, [(0, 0), (1, 1), (2, 2)]))

    def test_the_nearest_for_the_first_is_not_always_best(self):
        ones = [one("sold", 120, 5), one("sold", 120, 6)]
        others = [other("bought", 120, 5), other("bought", 121, 5)]
        # (0, 0) and (1, 1) cost 0 + 2, (0, 1) and (1, 0) cost 1 + 1.
        self.check(ones, others, (2, [(0, 0), (1, 1)]))
        ones = [one("sold", 120, 5), one("bought", 120, 5)]
        others = [other("bought", 120, 5), other("bought", 121, 6)]
        self.check_by_search(ones, others)
        ones = [one("sold", 120, 5), one("sold", 120, 5), one("sold", 121, 5)]
        others = [other("bought", 121, 5), other("bought", 120, 5), other("bought", 120, 5)]
        self.check(ones, others, (0, [(0, 1), (1, 2), (2, 0)]))

    def test_all_small_lists(self):
        looks = [("sold", 120, 5), ("bought", 120, 5), ("sold", 121, 5), ("bought", 121, 6)]
        for many, others in itertools.product(range(3), range(4)):
            for first in itertools.product(looks, repeat=many):
                for second in itertools.product(looks, repeat=others):
                    self.check_by_search([one(*look) for look in first], [other(*look) for look in second])

    def test_drawn_lists_of_up_to_five(self):
        chance = random.Random(21)
        for many, others in itertools.product(range(6), repeat=2):
            for prices, counts in [(1, 1), (2, 2), (3, 1), (1, 3), (5, 5)]:
                for _ in range(4):
                    self.check_by_search(
                        drawn_cards(chance, one, many, prices, counts),
                        drawn_cards(chance, other, others, prices, counts),
                    )

    def test_drawn_lists_of_six_and_seven(self):
        chance = random.Random(22)
        sizes = [(6, 6), (6, 7), (7, 6), (7, 1), (1, 7), (7, 3), (3, 7), (7, 7), (7, 7), (7, 7)]
        for many, others in sizes:
            prices, counts = chance.choice([(2, 2), (3, 2), (4, 3)])
            self.check_by_search(
                drawn_cards(chance, one, many, prices, counts),
                drawn_cards(chance, other, others, prices, counts),
            )

    def test_seven_and_seven_of_one_side_each(self):
        chance = random.Random(23)
        for _ in range(2):
            self.check_by_search(
                drawn_cards(chance, one, 7, 4, 4, ["sold"]), drawn_cards(chance, other, 7, 4, 4, ["bought"])
            )

    def test_rows_rise_and_no_place_is_there_twice(self):
        chance = random.Random(24)
        for _ in range(60):
            many, others = chance.randrange(8), chance.randrange(8)
            cost, rows = best_fit(drawn_cards(chance, one, many, 3, 3), drawn_cards(chance, other, others, 3, 3))
            self.assertEqual(rows, sorted(rows))
            for places, size in zip(([a for a, b in rows], [b for a, b in rows]), (many, others)):
                self.assertEqual(len(set(places)), len(places))
                self.assertLessEqual(set(places), set(range(size)))

    def test_somewhat_more_than_seven(self):
        same = [one("sold", 120, 5)] * 9
        self.check(same, [other("bought", 120, 5)] * 10, (2, [(at, at) for at in range(9)]))


class Refused(unittest.TestCase):
    def check_unlike(self, ones, others):
        before = list(ones), list(others)
        with self.assertRaises(HallError) as caught:
            best_fit(ones, others)
        self.assertIs(type(caught.exception), Unlike)
        self.assertEqual((ones, others), before)

    def test_two_that_do_not_belong_together(self):
        for strange in [
            one("sold", 120, 5), one("bought", 120, 5),
            (4, 7, "bought", 120, 5, 40), (3, 8, "bought", 120, 5, 40),
            (3, 7, "bought", 120, 5, 41), (3, 7, "bought", 120, 5, 39),
        ]:
            self.check_unlike([one("sold", 120, 5)], [strange])
            self.check_unlike([strange], [one("sold", 120, 5)])

    def test_one_strange_card_in_any_place_of_either_list(self):
        ones = [one("sold", 120, 5)] * 7
        others = [other("bought", 120, 5)] * 7
        for at in range(7):
            for strange in [(7, 3, "sold", 120, 5, 41), (6, 3, "sold", 120, 5, 40), (7, 4, "sold", 120, 5, 40)]:
                self.check_unlike(ones[:at] + [strange] + ones[at + 1:], others)
            for strange in [(3, 7, "bought", 120, 5, 41), (3, 6, "bought", 120, 5, 40), (4, 7, "bought", 120, 5, 40)]:
                self.check_unlike(ones, others[:at] + [strange] + others[at + 1:])

    def test_a_strange_card_that_no_best_fit_needs(self):
        self.check_unlike(
            [one("sold", 120, 5)], [other("bought", 120, 5), (3, 7, "bought", 120, 5, 0)],
        )
        self.check_unlike(
            [one("sold", 120, 5), (2, 5, "sold", 1, 1, 1)], [other("bought", 120, 5), (5, 2, "bought", 1, 1, 1)],
        )


class ListsTold(unittest.TestCase):
    def test_they_are_new_each_time(self):
        chance = random.Random(25)
        for many, others in [(0, 0), (0, 3), (3, 0), (1, 1), (4, 5)]:
            ones = drawn_cards(chance, one, many, 2, 2)
            cards = drawn_cards(chance, other, others, 2, 2)
            first, second = best_fit(ones, cards), best_fit(ones, cards)
            wanted = fit_by_search(ones, cards)
            first[1].append("other")
            self.assertEqual(second, wanted)
            self.assertEqual(best_fit(ones, cards), wanted)
            ones.clear()
            cards.clear()
            self.assertEqual(second, wanted)


if __name__ == "__main__":
    unittest.main()
