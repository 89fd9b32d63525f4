"""Promises [4] to [7], and [2] where it speaks of these."""

import random
import unittest

from helps import SHOWINGS, SIGN_LOOKS, SIGNS, first_unlike, put_otherwise, things_look_alike
from palmhall.signs import alikes, is_showing, is_sign, look_alike, lots_of, mistakes, price_meant

# repr tells True from 1, and a list from a tuple, where == does not.
SIGNS_SHOWN = {repr(sign) for sign in SIGNS}
SHOWINGS_SHOWN = {repr(showing) for showing in SHOWINGS}

PARTS = [
    "in", "out", "chin", "brow", "", "IN", "In", "in ", "i", "inout", "nose", "0", "1", "5",
    -1, 0, 1, 4, 5, 6, 9, 10, 11, 100, -5, 10 ** 19, -10 ** 19,
    True, False, None, [], (), ["in"], ("in",), [1], (1,), ("in", "out"), (1, 6),
]

SINGLE = PARTS + [
    [[]], [()], ([],), ((),), (None,), [None], ((1, "chin"),), [(1, "chin")],
    (("in", 1, 1, "chin"),), [("in", 1, 1, "chin")], ("in", (1, 1, "chin")), ("in", 1, (1, "chin")),
    ((1, "chin"), (1, "chin")), ("chin", "brow"), (1, 1), (1, 2, 3, 4), ("a", "b", "c", "d"),
    "in11chin", "1chin", "('in', 1, 1, 'chin')", "abcd", "ab", ["in", 1, 1, "chin"], [1, "chin"],
    tuple(range(400)), list(range(400)), "x" * 2000, (None,) * 2, (None,) * 4, ((),) * 4, ([],) * 2,
]


class WhatIsASign(unittest.TestCase):
    def check(self, thing):
        self.assertIs(is_sign(thing), repr(thing) in SIGNS_SHOWN, repr(thing)[:200])
        self.assertIs(is_showing(thing), repr(thing) in SHOWINGS_SHOWN, repr(thing)[:200])

    def test_all_signs_and_showings(self):
        self.assertEqual((len(SIGNS), len(SHOWINGS)), (360, 18))
        for sign in SIGNS:
            self.assertIs(is_sign(sign), True)
            self.assertIs(is_showing(sign), False)
        for showing in SHOWINGS:
            self.assertIs(is_showing(showing), True)
            self.assertIs(is_sign(showing), False)

    def test_with_one_part_put_otherwise(self):
        for thing in SIGNS + SHOWINGS:
            for other in put_otherwise(thing, PARTS):
                self.check(other)

    def test_truths_are_no_numbers(self):
        for sign in [
            ("in", True, 1, "chin"), ("in", False, 1, "chin"), ("in", 1, True, "chin"),
            ("out", 0, False, "brow"), (True, 1, 1, "chin"), ("in", 1, 1, True),
        ]:
            self.assertIs(is_sign(sign), False)
        self.assertIs(is_showing((True, "chin")), False)
        self.assertIs(is_showing((1, False)), False)

    def test_bounds(self):
        self.assertIs(is_sign(("in", 0, 1, "chin")), True)
        self.assertIs(is_sign(("in", 9, 9, "brow")), True)
        for price, figure in [(-1, 1), (10, 1), (0, 0), (0, 10), (0, -1)]:
            self.assertIs(is_sign(("in", price, figure, "chin")), False)
        for figure in (0, 10, -1):
            self.assertIs(is_showing((figure, "brow")), False)

    def test_single_things_and_things_within_things(self):
        for thing in SINGLE:
            self.check(thing)
            self.check([thing])
            self.check((thing,))
            self.check((thing, "chin"))
            self.check((1, thing))
        for price in SINGLE:
            for figure in SINGLE:
                self.check(("in", price, figure, "chin"))

    def test_deep_things(self):
        deep = ()
        for _ in range(5000):
            deep = (deep,)
        for thing in [deep, (deep, "chin"), (1, deep), ("in", 1, deep, "chin"), (deep,) * 4]:
            self.assertIs(is_sign(thing), False)
            self.assertIs(is_showing(thing), False)

    def test_a_list_that_is_asked_of_is_not_changed(self):
        thing = ["in", 1, [1, "chin"], "brow"]
        is_sign(thing)
        is_showing(thing)
        self.assertEqual(thing, ["in", 1, [1, "chin"], "brow"])


class Lots(unittest.TestCase):
    def test_the_figure_at_the_chin_ten_times_at_the_brow(self):
        for figure in range(1, 10):
            self.assertEqual(lots_of((figure, "chin")), figure)
            self.assertEqual(lots_of((figure, "brow")), figure * 10)
            for palm in ("in", "out"):
                for price in range(10):
                    self.assertEqual(lots_of((palm, price, figure, "chin")), figure)
                    self.assertEqual(lots_of((palm, price, figure, "brow")), figure * 10)


class Alikes(unittest.TestCase):
    def test_a_few_as_written(self):
        self.assertEqual(alikes(("in", 1, 9, "chin")), [
            ("out", 1, 9, "chin"), ("in", 6, 9, "chin"), ("in", 1, 4, "chin"), ("in", 1, 9, "brow"),
        ])
        self.assertEqual(alikes(("out", 0, 5, "brow")), [("in", 0, 5, "brow"), ("out", 0, 5, "chin")])
        self.assertEqual(alikes(("out", 5, 2, "brow")), [
            ("in", 5, 2, "brow"), ("out", 5, 7, "brow"), ("out", 5, 2, "chin"),
        ])
        self.assertEqual(alikes((5, "chin")), [(5, "brow")])
        self.assertEqual(alikes((8, "brow")), [(3, "brow"), (8, "chin")])

    def test_of_all_against_the_pairs_of_the_document(self):
        for every in (SIGNS, SHOWINGS):
            for thing in every:
                wanted = [other for other in every if things_look_alike(thing, other)]
                # Each part has one look-alike at most, so the first unlike part orders them.
                wanted.sort(key=lambda other: first_unlike(thing, other))
                self.assertEqual(alikes(thing), wanted)

    def test_fist_and_hand_look_like_no_other_one(self):
        for sign in SIGNS:
            told = alikes(sign)
            self.assertEqual(len(told), 4 - (sign[1] in (0, 5)) - (sign[2] == 5))
            if sign[1] in (0, 5):
                self.assertEqual({other[1] for other in told}, {sign[1]})
            if sign[2] == 5:
                self.assertEqual({other[2] for other in told}, {5})

    def test_what_is_told_are_signs_and_showings(self):
        for sign in SIGNS:
            self.assertIs(type(alikes(sign)), list)
            self.assertTrue(all(repr(other) in SIGNS_SHOWN for other in alikes(sign)))
        for showing in SHOWINGS:
            self.assertIs(type(alikes(showing)), list)
            self.assertTrue(all(repr(other) in SHOWINGS_SHOWN for other in alikes(showing)))

    def test_a_list_told_is_the_askers_own(self):
        for thing in [("in", 1, 9, "chin"), (8, "brow")]:
            first = alikes(thing)
            kept = list(first)
            second = alikes(thing)
            first.clear()
            first.append("other")
            self.assertEqual(second, kept)
            self.assertEqual(alikes(thing), kept)
            self.assertIs(look_alike(thing, kept[0]), True)

    def test_look_alike_is_true_just_of_these(self):
        for every in (SIGNS, SHOWINGS):
            for one in every:
                for other in every:
                    told = look_alike(one, other)
                    self.assertIs(told, things_look_alike(one, other))
                    self.assertIs(look_alike(other, one), told)


def steps_from(sign):
    """How many look-alikes lead to each sign, by going from look-alike to look-alike."""
    steps = {sign: 0}
    row = [sign]
    for one in row:
        for other in SIGN_LOOKS[one]:
            if other not in steps:
                steps[other] = steps[one] + 1
                row.append(other)
    return steps


class Mistakes(unittest.TestCase):
    def test_a_few_as_written(self):
        one = ("in", 1, 2, "chin")
        self.assertEqual(mistakes(one, one), 0)
        self.assertEqual(mistakes(one, ("out", 1, 2, "chin")), 1)
        self.assertEqual(mistakes(one, ("out", 6, 7, "brow")), 4)
        self.assertIsNone(mistakes(one, ("in", 2, 2, "chin")))
        self.assertIsNone(mistakes(one, ("out", 6, 5, "brow")))
        self.assertIsNone(mistakes(("in", 0, 2, "chin"), ("in", 5, 2, "chin")))

    def test_from_every_sign_to_every_sign(self):
        for one in SIGNS:
            steps = steps_from(one)
            for other in SIGNS:
                told = mistakes(one, other)
                self.assertEqual(told, steps.get(other))
                self.assertEqual(mistakes(other, one), told)
                self.assertIsNot(type(told), bool)


def meant_by_search(called, figure):
    """From the called price on, one further at a time, upwards first."""
    away = 0
    while True:
        for price in (called + away, called - away):
            if price >= 0 and str(price)[-1] == str(figure):
                return price
        away += 1


class PriceMeant(unittest.TestCase):
    def test_a_few_as_written(self):
        for called, figure, price in [
            (0, 0, 0), (0, 9, 9), (0, 5, 5), (3, 9, 9), (4, 9, 9), (5, 0, 10), (10, 5, 15), (9, 0, 10),
            (11, 9, 9), (15, 0, 20), (14, 9, 19), (120, 7, 117), (120, 5, 125), (120, 6, 116), (3, 8, 8),
            (3, 7, 7), (99, 0, 100), (2, 9, 9), (1, 7, 7), (10 ** 19, 6, 10 ** 19 - 4),
            (10 ** 19, 5, 10 ** 19 + 5), (10 ** 20 - 1, 4, 10 ** 20 + 4),
        ]:
            self.assertEqual(price_meant(called, figure), price, (called, figure))

    def test_called_prices_from_0_on(self):
        for called in range(0, 1200):
            for figure in range(10):
                self.assertEqual(price_meant(called, figure), meant_by_search(called, figure))

    def test_called_prices_of_up_to_twenty_figures(self):
        chance = random.Random(7)
        for figures in range(1, 21):
            for _ in range(20):
                called = chance.randrange(10 ** figures)
                for figure in range(10):
                    self.assertEqual(price_meant(called, figure), meant_by_search(called, figure))


if __name__ == "__main__":
    unittest.main()
