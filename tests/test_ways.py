"""Promise [19], and [3] where it speaks of settling."""

import itertools
import random
import unittest

from helps import drawn_card, refused, together_by_words, way_by_words
from palmhall.errors import Unlike
from palmhall.ways import one_way

SOLD = (7, 3, "sold", 120, 5, 40)


def sold_at(price, count=5):
    return (7, 3, "sold", price, count, 40)


def bought_at(price, count=5):
    return (3, 7, "bought", price, count, 40)


class OneWay(unittest.TestCase):
    def check(self, one, other, called, wanted):
        for cards in [(one, other), (other, one)]:
            told = one_way(*cards, called)
            self.assertIs(type(told), tuple)
            self.assertEqual(told, wanted, (cards, called))

    def test_void_where_both_sides_are_alike(self):
        for side in ("bought", "sold"):
            for price, count, called in itertools.product((0, 119, 120, 121), (1, 5, 6), (0, 120, 500)):
                self.check((7, 3, side, 120, 5, 40), (3, 7, side, price, count, 40), called, ("void",))

    def test_cards_that_agree(self):
        for called in (0, 119, 120, 121, 10 ** 9):
            self.check(sold_at(120), bought_at(120), called, ("done", 120, 5))

    def test_both_cards_price_wherever_the_called_one_is(self):
        for called in (0, 119, 120, 121, 10 ** 9):
            self.check(sold_at(120, 5), bought_at(120, 8), called, ("done", 120, 5))
            self.check(sold_at(120, 8), bought_at(120, 5), called, ("done", 120, 5))
            self.check(sold_at(0, 1), bought_at(0, 10), called, ("done", 0, 1))

    def test_the_called_price_at_both_ends_and_between(self):
        for called in range(117, 124):
            wanted = ("done", called, 5) if 118 <= called <= 122 else ("left",)
            self.check(sold_at(118), bought_at(122), called, wanted)

    def test_the_called_price_with_unlike_counts(self):
        self.check(sold_at(118, 50), bought_at(122, 5), 119, ("done", 119, 5))
        self.check(sold_at(118, 5), bought_at(122, 50), 119, ("done", 119, 5))
        self.check(sold_at(118, 5), bought_at(122, 50), 123, ("left",))

    def test_next_to_one_another(self):
        for called, wanted in [(119, ("left",)), (120, ("done", 120, 5)), (121, ("done", 121, 5)), (122, ("left",))]:
            self.check(sold_at(120), bought_at(121), called, wanted)

    def test_left_where_the_seller_asks_more_than_the_buyer_gives(self):
        for called in (0, 117, 118, 120, 122, 123, 10 ** 9):
            self.check(sold_at(122), bought_at(118), called, ("left",))
            self.check(sold_at(121), bought_at(120), called, ("left",))

    def test_great_numbers(self):
        self.check(sold_at(0, 10 ** 6), bought_at(10 ** 9, 10 ** 6), 10 ** 9, ("done", 10 ** 9, 10 ** 6))
        self.check(sold_at(0, 10 ** 6), bought_at(10 ** 9, 1), 0, ("done", 0, 1))
        self.check(sold_at(10 ** 9), bought_at(0), 5, ("left",))

    def test_all_small_choices(self):
        choices = list(itertools.product(("bought", "sold"), range(3), (1, 2)))
        for one, other, called in itertools.product(choices, choices, range(4)):
            cards = (0, 11) + one + (0,), (11, 0) + other + (0,)
            self.check(*cards, called, way_by_words(*cards, called))

    def test_unlike(self):
        for other in [
            SOLD, (7, 3, "bought", 120, 5, 40), (4, 7, "bought", 120, 5, 40), (3, 8, "bought", 120, 5, 40),
            (3, 7, "bought", 120, 5, 41), (3, 7, "bought", 120, 5, 39), (3, 7, "sold", 120, 5, 0),
        ]:
            refused(self, Unlike, one_way, SOLD, other, 120)
            refused(self, Unlike, one_way, other, SOLD, 120)

    def test_drawn_cards(self):
        chance = random.Random(41)
        for _ in range(2000):
            one, other = drawn_card(chance, members=2), drawn_card(chance, members=2)
            called = chance.randint(116, 122)
            if together_by_words(one, other):
                self.check(one, other, called, way_by_words(one, other, called))
            else:
                refused(self, Unlike, one_way, one, other, called)


if __name__ == "__main__":
    unittest.main()
