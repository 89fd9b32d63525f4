"""Promises [9] to [11], and [2] and [3] where they speak of cards."""

import itertools
import random
import unittest

from helps import (
    card_by_words, drawn_card, put_otherwise, quarrel_by_words, shuffled, together_by_words,
)
from palmhall.cards import is_card, put_together, quarrel_of
from palmhall.errors import HallError, Unlike

SOLD = (7, 3, "sold", 120, 5, 40)
BOUGHT = (3, 7, "bought", 120, 5, 40)

CARDS = [
    SOLD, BOUGHT,
    (0, 1, "sold", 0, 1, 0), (1, 0, "bought", 1, 1, 1), (0, 11, "bought", 0, 1, 0), (11, 0, "sold", 1, 1, 1),
    (11, 10, "sold", 10 ** 9, 10 ** 6, 10 ** 9), (10, 11, "bought", 10 ** 9, 10 ** 6, 10 ** 9),
    (2, 5, "bought", 5, 2, 2), (5, 2, "sold", 2, 5, 5),
]

PARTS = [
    "bought", "sold", "", "Bought", "SOLD", "sold ", " sold", "sol", "boughtsold", "buy", "in", "0", "1", "5",
    -1, 0, 1, 2, 5, 10, 11, 12, 100, 10 ** 6, 10 ** 6 + 1, 10 ** 9 - 1, 10 ** 9, 10 ** 9 + 1, 10 ** 19, -10 ** 19,
    True, False, None, [], (), ["sold"], ("sold",), [1], (1,), ("bought", "sold"), (0, 1),
]

SINGLE = PARTS + [
    [[]], [()], ([],), ((),), (None,), [None], [SOLD], (SOLD,), (SOLD, BOUGHT), SOLD + BOUGHT, list(SOLD),
    (7, 3, ("sold", 120, 5, 40)), ((7, 3), "sold", 120, 5, 40), (7, 3, "sold", 120, 5), (7, 3, "sold", 120, 5, 40, 0),
    "7 sold 5 at 120 to 3 in 40", "(7, 3, 'sold', 120, 5, 40)", "abcdef", (1, 2, 3, 4, 5, 6), ("sold",) * 6,
    (None,) * 6, ((),) * 6, ([],) * 6, (True,) * 6, tuple(range(400)), list(range(400)), "x" * 2000,
]

# (part's place, what is a card's with all else as in SOLD, what is not)
BOUNDS = [
    (0, [0, 11, 2, 4], [-1, 12, 3, 100]),
    (1, [0, 11, 6, 8], [-1, 12, 7, 100]),
    (2, ["bought", "sold"], ["", "Sold", "BOUGHT", "sold\n", 0, 1]),
    (3, [0, 1, 10 ** 9 - 1, 10 ** 9], [-1, 10 ** 9 + 1]),
    (4, [1, 2, 10 ** 6 - 1, 10 ** 6], [0, -1, 10 ** 6 + 1]),
    (5, [0, 1, 10 ** 9 - 1, 10 ** 9], [-1, 10 ** 9 + 1]),
]


def with_part(card, at, part):
    return card[:at] + (part,) + card[at + 1:]


class WhatIsACard(unittest.TestCase):
    def check(self, thing):
        self.assertIs(is_card(thing), card_by_words(thing), repr(thing)[:200])

    def test_cards(self):
        for card in CARDS:
            self.assertIs(is_card(card), True, card)
        chance = random.Random(11)
        for _ in range(500):
            card = drawn_card(chance, prices=10 ** 9 - 118, counts=10 ** 6, moments=10 ** 9)
            self.assertIs(is_card(card), True, card)

    def test_all_two_members(self):
        for writer, other in itertools.product(range(-2, 15), repeat=2):
            wanted = writer != other and 0 <= writer <= 11 and 0 <= other <= 11
            self.assertIs(is_card((writer, other, "sold", 120, 5, 40)), wanted, (writer, other))

    def test_bounds(self):
        for at, within, beyond in BOUNDS:
            for part in within:
                self.assertIs(is_card(with_part(SOLD, at, part)), True, (at, part))
            for part in beyond:
                self.assertIs(is_card(with_part(SOLD, at, part)), False, (at, part))

    def test_with_one_part_put_otherwise(self):
        for card in CARDS:
            for other in put_otherwise(card, PARTS):
                self.check(other)

    def test_with_one_part_left_out_told_twice_or_exchanged(self):
        for card in CARDS:
            for at in range(6):
                self.assertIs(is_card(card[:at] + card[at + 1:]), False)
                self.assertIs(is_card(card[:at + 1] + card[at:]), False)
            self.assertIs(is_card(list(card)), False)
            self.assertIs(is_card(card[:1] + card[2:3] + card[1:2] + card[3:]), False)
        # Exchanged, members are members still, and so are numbers within the other's bounds.
        self.assertIs(is_card((3, 7, "sold", 120, 5, 40)), True)
        self.assertIs(is_card((7, 3, "sold", 5, 120, 40)), True)
        self.assertIs(is_card((7, 3, "sold", 5, 0, 40)), False)

    def test_truths_are_no_numbers(self):
        low = (0, 1, "sold", 0, 1, 0)
        for at in (0, 1, 3, 4, 5):
            self.assertIs(is_card(with_part(low, at, bool(low[at]))), False, at)
        for at in range(6):
            for truth in (True, False):
                self.assertIs(is_card(with_part(SOLD, at, truth)), False, (at, truth))

    def test_single_things_and_things_within_things(self):
        for thing in SINGLE:
            self.check(thing)
            self.check([thing])
            self.check((thing,))
            self.check((thing,) * 6)
            for at in range(6):
                self.check(with_part(SOLD, at, thing))
        for one, other in itertools.product(SINGLE, repeat=2):
            self.check((one, other, "sold", 120, 5, 40))
            self.check((7, 3, "sold", one, other, 40))

    def test_deep_things(self):
        deep = ()
        for _ in range(5000):
            deep = (deep,)
        self.assertIs(is_card(deep), False)
        self.assertIs(is_card((deep,) * 6), False)
        for at in range(6):
            self.assertIs(is_card(with_part(SOLD, at, deep)), False)

    def test_a_list_that_is_asked_of_is_not_changed(self):
        thing = [7, 3, ["sold"], 120, 5, 40]
        is_card(thing)
        is_card((7, 3, thing, 120, 5, 40))
        self.assertEqual(thing, [7, 3, ["sold"], 120, 5, 40])


class Quarrels(unittest.TestCase):
    def check(self, one, other, wanted):
        for told in (quarrel_of(one, other), quarrel_of(other, one), quarrel_of(one, other)):
            self.assertIs(type(told), tuple)
            self.assertEqual(told, wanted, (one, other))

    def test_each_choice_of_parts_as_written(self):
        self.check(SOLD, (3, 7, "bought", 120, 5, 40), ())
        self.check(SOLD, (3, 7, "sold", 120, 5, 40), ("side",))
        self.check(SOLD, (3, 7, "bought", 121, 5, 40), ("price",))
        self.check(SOLD, (3, 7, "bought", 120, 6, 40), ("count",))
        self.check(SOLD, (3, 7, "sold", 119, 5, 40), ("side", "price"))
        self.check(SOLD, (3, 7, "sold", 120, 4, 40), ("side", "count"))
        self.check(SOLD, (3, 7, "bought", 0, 1, 40), ("price", "count"))
        self.check(SOLD, (3, 7, "sold", 125, 50, 40), ("side", "price", "count"))
        self.check(BOUGHT, (7, 3, "bought", 120, 5, 40), ("side",))
        self.check(BOUGHT, (7, 3, "bought", 5, 120, 40), ("side", "price", "count"))

    def test_all_choices_of_sides_prices_and_counts(self):
        choices = list(itertools.product(["bought", "sold"], [0, 1, 10 ** 9], [1, 2, 10 ** 6]))
        for one, other in itertools.product(choices, repeat=2):
            cards = (0, 11) + one + (0,), (11, 0) + other + (0,)
            self.check(*cards, quarrel_by_words(*cards))

    def check_unlike(self, one, other):
        for cards in [(one, other), (other, one)]:
            with self.assertRaises(HallError) as caught:
                quarrel_of(*cards)
            self.assertIs(type(caught.exception), Unlike)

    def test_unlike(self):
        for other in [
            SOLD,
            (7, 3, "bought", 120, 5, 40),
            (4, 7, "bought", 120, 5, 40),
            (3, 8, "bought", 120, 5, 40),
            (4, 8, "bought", 120, 5, 40),
            (3, 7, "bought", 120, 5, 41),
            (3, 7, "bought", 120, 5, 39),
            (3, 7, "sold", 121, 6, 0),
        ]:
            self.check_unlike(SOLD, other)

    def test_all_members_and_moments(self):
        for one, other, again, last in itertools.product(range(4), repeat=4):
            if one == other or again == last:
                continue
            for moment in (0, 1):
                cards = (one, other, "sold", 5, 5, 0), (again, last, "bought", 5, 5, moment)
                if together_by_words(*cards):
                    self.check(*cards, ())
                else:
                    self.check_unlike(*cards)


def together_by_search(cards):
    """(pairs, left), by looking for each card whether one that is left agrees with it."""
    pairs, left = [], []
    for card in cards:
        agrees = [
            other for other in left if together_by_words(card, other) and quarrel_by_words(card, other) == ()
        ]
        if agrees:
            left.remove(agrees[0])
            pairs.append(tuple(sorted([card, agrees[0]], key=lambda one: one[2], reverse=True)))
        else:
            left.append(card)
    return sorted(pairs), sorted(left)


class PutTogether(unittest.TestCase):
    def check(self, cards, wanted):
        before = list(cards)
        told = put_together(cards)
        self.assertEqual(cards, before)
        self.assertIs(type(told), tuple)
        self.assertEqual([type(part) for part in told], [list, list])
        self.assertTrue(all(type(pair) is tuple for pair in told[0]))
        self.assertEqual(told, wanted)

    def test_none_and_one(self):
        self.check([], ([], []))
        for card in CARDS:
            self.check([card], ([], [card]))

    def test_twins(self):
        self.check([SOLD, BOUGHT], ([(SOLD, BOUGHT)], []))
        self.check([BOUGHT, SOLD], ([(SOLD, BOUGHT)], []))
        low, high = (0, 1, "sold", 0, 1, 0), (1, 0, "bought", 0, 1, 0)
        self.check([high, low], ([(low, high)], []))
        turned = (0, 1, "bought", 0, 1, 0), (1, 0, "sold", 0, 1, 0)
        self.check(list(turned), ([turned[::-1]], []))

    def test_one_card_twice_is_no_pair(self):
        self.check([SOLD, SOLD], ([], [SOLD, SOLD]))
        self.check([BOUGHT] * 3, ([], [BOUGHT] * 3))

    def test_several_times_with_the_twin_several_times(self):
        chance = random.Random(12)
        for one, other in itertools.product(range(7), repeat=2):
            cards = shuffled(chance, [SOLD] * one + [BOUGHT] * other)
            fewer = min(one, other)
            left = [BOUGHT] * (other - fewer) + [SOLD] * (one - fewer)
            self.check(cards, ([(SOLD, BOUGHT)] * fewer, left))

    def test_near_twins_stay_left(self):
        for at, part in [(0, 4), (1, 8), (2, "sold"), (3, 121), (3, 119), (4, 6), (4, 4), (5, 41), (5, 39)]:
            near = with_part(BOUGHT, at, part)
            self.check([SOLD, near], ([], sorted([SOLD, near])))
            self.check([near, SOLD, BOUGHT], ([(SOLD, BOUGHT)], [near]))
        for near in [(7, 3, "bought", 120, 5, 40), (3, 7, "sold", 120, 5, 40)]:
            self.check([SOLD, near], ([], sorted([SOLD, near])))

    def test_pairs_and_left_rise(self):
        cards = [
            (2, 1, "sold", 10, 1, 0), (1, 2, "bought", 10, 1, 0),
            (2, 1, "sold", 9, 1, 0), (1, 2, "bought", 9, 1, 0),
            (1, 2, "sold", 100, 1, 5), (2, 1, "bought", 100, 1, 5),
            (1, 10, "sold", 5, 1, 0), (1, 9, "sold", 5, 1, 0), (0, 11, "sold", 5, 1, 9), (1, 9, "bought", 6, 1, 0),
        ]
        self.check(cards, (
            [
                ((1, 2, "sold", 100, 1, 5), (2, 1, "bought", 100, 1, 5)),
                ((2, 1, "sold", 9, 1, 0), (1, 2, "bought", 9, 1, 0)),
                ((2, 1, "sold", 10, 1, 0), (1, 2, "bought", 10, 1, 0)),
            ],
            [(0, 11, "sold", 5, 1, 9), (1, 9, "bought", 6, 1, 0), (1, 9, "sold", 5, 1, 0), (1, 10, "sold", 5, 1, 0)],
        ))

    def test_all_orders_of_a_few(self):
        cards = [SOLD, BOUGHT, SOLD, (3, 7, "bought", 121, 5, 40), (7, 3, "sold", 121, 5, 40)]
        wanted = together_by_search(cards)
        self.assertEqual((len(wanted[0]), wanted[1]), (2, [SOLD]))
        for order in itertools.permutations(cards):
            self.check(list(order), wanted)

    def test_lists_up_to_400_in_any_order(self):
        chance = random.Random(13)
        for many in [2, 3, 5, 8, 13, 30, 60, 100, 200, 399, 400]:
            for members in (2, 3, 12):
                cards = [drawn_card(chance, members=members) for _ in range(many)]
                wanted = together_by_search(cards)
                self.assertEqual(2 * len(wanted[0]) + len(wanted[1]), many)
                for _ in range(3):
                    self.check(shuffled(chance, cards), wanted)

    def test_400_cards_all_in_pairs(self):
        sold = [(0, 1, "sold", price, 1, price) for price in range(200)]
        bought = [(1, 0, "bought", price, 1, price) for price in range(200)]
        self.check(bought[::-1] + sold, (list(zip(sold, bought)), []))

    def test_lists_told_are_new_each_time(self):
        cards = [SOLD, BOUGHT, (3, 7, "bought", 121, 5, 40)]
        wanted = ([(SOLD, BOUGHT)], [(3, 7, "bought", 121, 5, 40)])
        first = put_together(cards)
        second = put_together(cards)
        first[0].clear()
        first[1].append("other")
        self.assertEqual(second, wanted)
        self.assertEqual(put_together(cards), wanted)
        cards.clear()
        self.assertEqual(second, wanted)
        self.assertEqual(put_together([]), ([], []))

    def test_the_list_handed_in_is_not_the_list_told(self):
        cards = [SOLD]
        put_together(cards)[1].clear()
        self.assertEqual(cards, [SOLD])


if __name__ == "__main__":
    unittest.main()
