"""Promises [20] to [28], one by one; test_hallruns.py holds whole runs against a plain hall."""

import itertools
import unittest

from helps import ANYTHING, deep_thing, everything, refused
from palmhall.errors import (
    BadNumber, Closed, NoBargain, NoMember, NoOffer, NoQuarrel, NoSign, NotSeen, NotTheirs, NothingLeft, NoWay,
    Own, TooMany, Twice,
)
from palmhall.halls import Hall
from palmhall.signs import is_showing, is_sign

SELLS = ("out", 7, 3, "chin")
BUYS = ("in", 7, 3, "chin")
SELLS_MANY = ("out", 7, 5, "brow")


def taken_hall(look=SELLS, shown=(2, "chin"), seen=None, sign=SELLS):
    """A hall of four with first price 120: member 0 holds up a sign, and 1 takes it so."""
    hall = Hall(4, 120)
    hall.hold(0, sign)
    hall.take(1, 0, look, shown, shown if seen is None else seen)
    return hall


def handed_hall(look=SELLS, shown=(2, "chin"), seen=None, sign=SELLS):
    """The same with both cards in."""
    hall = taken_hall(look, shown, seen, sign)
    hall.hand_in(0, 0)
    hall.hand_in(1, 0)
    return hall


# At 120 a last figure 7 means 117, and 2 means 122: each looks like the other.
def price_quarrel():
    """The seller's card tells 117, the buyer's 122."""
    return handed_hall(look=("out", 2, 3, "chin"))


def crossed_quarrel():
    """The seller's card tells 122, the buyer's 117: no one way."""
    return handed_hall(sign=("out", 2, 3, "chin"), look=("out", 7, 3, "chin"))


def side_quarrel():
    """Both cards tell that they sold."""
    return handed_hall(look=BUYS)


def count_quarrel():
    """1 shows two lots, 0 sees seven, of which there are three."""
    return handed_hall(shown=(2, "chin"), seen=(7, "chin"))


class HallCase(unittest.TestCase):
    def refuse(self, kind, hall, name, *parts):
        """What is refused changes nothing, and cannot be taken back."""
        before = everything(hall)
        refused(self, kind, getattr(hall, name), *parts)
        self.assertEqual(everything(hall), before)


class Made(unittest.TestCase):
    def test_within_bounds(self):
        for many in range(2, 13):
            for first in (0, 1, 120, 10 ** 8 - 1, 10 ** 8):
                hall = Hall(many, first)
                self.assertEqual(everything(hall), [
                    0, first, True, [], [], [], [], [(0, 0)] * many, (0, []), [],
                ])

    def test_beyond_bounds(self):
        for many in (-10 ** 19, -1, 0, 1, 13, 14, 10 ** 19):
            refused(self, BadNumber, Hall, many, 120)
            refused(self, BadNumber, Hall, many, -1)
        for first in (-10 ** 19, -1, 10 ** 8 + 1, 10 ** 19):
            refused(self, BadNumber, Hall, 2, first)

    def test_methods_stand_in_the_class_itself(self):
        for name in (
            "hold lower take hand_in settle consent go_on close back now called is_open offers prints deals "
            "stands_now book bargain quarrel deliveries"
        ).split():
            self.assertTrue(callable(vars(Hall)[name]), name)


class Held(HallCase):
    def test_numbers_and_offers(self):
        hall = Hall(4, 120)
        self.assertEqual(hall.hold(3, SELLS), 0)
        self.assertEqual(hall.hold(0, ("in", 2, 4, "brow")), 1)
        self.assertEqual(hall.hold(3, ("in", 5, 1, "chin")), 2)
        self.assertEqual(hall.offers(), [
            (0, 3, SELLS, 117, 3), (1, 0, ("in", 2, 4, "brow"), 122, 40), (2, 3, ("in", 5, 1, "chin"), 125, 1),
        ])

    def test_the_price_is_the_one_meant_at_the_called_price(self):
        for called, figure, wanted in [
            (120, 0, 120), (120, 4, 124), (120, 5, 125), (120, 6, 116), (119, 4, 124), (0, 9, 9), (3, 9, 9),
            (4, 9, 9), (5, 0, 10), (14, 9, 19), (15, 9, 19), (10 ** 8, 9, 10 ** 8 - 1), (10 ** 8, 5, 10 ** 8 + 5),
        ]:
            hall = Hall(2, called)
            hall.hold(0, ("in", figure, 1, "chin"))
            self.assertEqual(hall.offers()[0][3], wanted, (called, figure))

    def test_an_offer_with_the_same_palm_goes_down(self):
        hall = Hall(3, 120)
        hall.hold(0, SELLS)
        hall.hold(1, SELLS)
        hall.hold(0, BUYS)
        self.assertEqual(hall.hold(0, ("out", 1, 1, "chin")), 3)
        self.assertEqual([offer[:3] for offer in hall.offers()], [
            (1, 1, SELLS), (2, 0, BUYS), (3, 0, ("out", 1, 1, "chin")),
        ])
        self.assertEqual(hall.hold(0, ("out", 1, 1, "chin")), 4)
        self.assertEqual([offer[0] for offer in hall.offers()], [1, 2, 4])
        self.refuse(NoOffer, hall, "take", 2, 0, SELLS, (1, "chin"), (1, "chin"))
        self.refuse(NoOffer, hall, "take", 2, 3, ("out", 1, 1, "chin"), (1, "chin"), (1, "chin"))

    def test_taken_down(self):
        hall = Hall(3, 120)
        hall.hold(0, SELLS)
        hall.hold(0, BUYS)
        hall.hold(1, SELLS)
        self.assertIsNone(hall.lower(0, "out"))
        self.assertEqual([offer[0] for offer in hall.offers()], [1, 2])
        self.refuse(NoOffer, hall, "lower", 0, "out")
        self.assertIsNone(hall.lower(0, "in"))
        self.assertIsNone(hall.lower(1, "out"))
        self.assertEqual(hall.offers(), [])
        self.assertEqual(hall.hold(0, SELLS), 3)

    def test_the_price_stays_when_another_one_is_called(self):
        hall = taken_hall(sign=("out", 4, 3, "chin"), look=("out", 4, 3, "chin"))
        hall.hand_in(1, 0)
        hall.hand_in(0, 0)
        self.assertEqual(hall.called(), 124)
        self.assertEqual(hall.offers(), [(0, 0, ("out", 4, 3, "chin"), 124, 1)])
        hall.hold(2, ("in", 9, 1, "chin"))
        self.assertEqual(hall.offers()[1][3], 129)

    def test_refused_alone(self):
        hall = Hall(3, 120)
        for member in (-1, 3, 4, 12, 10 ** 19, -10 ** 19):
            self.refuse(NoMember, hall, "hold", member, SELLS)
            self.refuse(NoMember, hall, "lower", member, "in")
        for palm in ("in", "out"):
            self.refuse(NoOffer, hall, "lower", 0, palm)
        hall.hold(1, SELLS)
        self.refuse(NoOffer, hall, "lower", 0, "out")
        self.refuse(NoOffer, hall, "lower", 1, "in")
        hall.close()
        self.refuse(Closed, hall, "hold", 0, SELLS)
        self.refuse(Closed, hall, "lower", 1, "out")

    def test_no_sign_of_anything(self):
        hall = Hall(3, 120)
        for thing in ANYTHING + [deep_thing(), list(SELLS), [SELLS], (SELLS,), SELLS + (0,), SELLS[:3], SELLS[2:]]:
            if not is_sign(thing):
                self.refuse(NoSign, hall, "hold", 0, thing)
        self.assertEqual(hall.hold(0, ("in", 1, 1, "chin")), 0)

    def test_of_two_the_one_told_first(self):
        hall = Hall(3, 120)
        self.refuse(NoMember, hall, "hold", 3, "no sign")
        self.refuse(NoMember, hall, "lower", 3, "out")
        hall.close()
        self.refuse(Closed, hall, "hold", 3, SELLS)
        self.refuse(Closed, hall, "hold", 3, "no sign")
        self.refuse(Closed, hall, "hold", 0, "no sign")
        self.refuse(Closed, hall, "lower", 3, "out")
        self.refuse(Closed, hall, "lower", 0, "out")


class Taken(HallCase):
    def cards(self, hall, number=0):
        return hall.bargain(number)[6:8]

    def test_all_of_a_bargain(self):
        hall = Hall(4, 120)
        hall.hold(2, SELLS)
        hall.go_on(40)
        self.assertEqual(hall.take(1, 0, SELLS, (2, "chin"), (2, "chin")), 0)
        self.assertEqual(hall.bargain(0), (
            2, 1, SELLS, SELLS, (2, "chin"), (2, "chin"),
            (2, 1, "sold", 117, 2, 40), (1, 2, "bought", 117, 2, 40), "open",
        ))
        self.assertEqual(hall.quarrel(0), ())
        self.assertEqual(hall.offers(), [(0, 2, SELLS, 117, 1)])

    def test_sides(self):
        for palm, side, other in [("in", "bought", "sold"), ("out", "sold", "bought")]:
            sign = (palm, 7, 3, "chin")
            self.assertEqual([card[2] for card in self.cards(taken_hall(sign=sign, look=sign))], [side, other])
            look = ("out" if palm == "in" else "in", 7, 3, "chin")
            self.assertEqual([card[2] for card in self.cards(taken_hall(sign=sign, look=look))], [side, side])

    def test_each_mistake_tells_its_part(self):
        for look, parts in [
            (("in", 7, 3, "chin"), ("side",)), (("out", 2, 3, "chin"), ("price",)),
            (("out", 7, 8, "chin"), ()), (("out", 7, 3, "brow"), ()),
        ]:
            self.assertEqual(taken_hall(look=look).quarrel(0), parts)
        self.assertEqual(taken_hall(shown=(2, "chin"), seen=(7, "chin")).quarrel(0), ("count",))

    def test_the_takers_price_is_meant_at_the_called_price_now(self):
        hall = Hall(4, 120)
        hall.hold(0, SELLS)
        hall.hold(2, ("out", 4, 1, "chin"))
        self.assertEqual(hall.take(3, 1, ("out", 4, 1, "chin"), (1, "chin"), (1, "chin")), 0)
        hall.hand_in(3, 0)
        hall.hand_in(2, 0)
        self.assertEqual(hall.called(), 124)
        hall.take(1, 0, SELLS, (1, "chin"), (1, "chin"))
        self.assertEqual([card[3] for card in self.cards(hall, 1)], [117, 127])

    def test_the_holder_writes_what_it_has_seen_but_no_more_than_are_left(self):
        for shown, seen, counts, left in [
            ((2, "chin"), (2, "chin"), [2, 2], 1), ((3, "chin"), (3, "chin"), [3, 3], None),
            ((2, "chin"), (7, "chin"), [3, 2], None), ((1, "chin"), (1, "brow"), [3, 1], None),
            ((3, "chin"), (8, "chin"), [3, 3], None),
        ]:
            hall = taken_hall(shown=shown, seen=seen)
            self.assertEqual([card[4] for card in self.cards(hall)], counts)
            self.assertEqual([offer[4] for offer in hall.offers()], [] if left is None else [left])

    def test_fewer_seen_than_shown(self):
        hall = taken_hall(sign=SELLS_MANY, look=SELLS_MANY, shown=(7, "chin"), seen=(2, "chin"))
        self.assertEqual([card[4] for card in self.cards(hall)], [2, 7])
        self.assertEqual(hall.offers(), [(0, 0, SELLS_MANY, 117, 48)])
        hall.take(2, 0, SELLS_MANY, (4, "brow"), (4, "chin"))
        self.assertEqual([card[4] for card in self.cards(hall, 1)], [4, 40])
        self.assertEqual(hall.offers()[0][4], 44)

    def test_more_shown_than_are_left(self):
        hall = taken_hall()
        hall.take(2, 0, SELLS, (3, "chin"), (3, "chin"))
        self.assertEqual([card[4] for card in self.cards(hall, 1)], [1, 3])
        self.assertEqual(hall.offers(), [])
        self.refuse(NoOffer, hall, "take", 3, 0, SELLS, (1, "chin"), (1, "chin"))

    def test_more_shown_than_the_sign_has_but_not_than_the_look(self):
        hall = taken_hall(look=("out", 7, 8, "chin"), shown=(8, "chin"))
        self.assertEqual([card[4] for card in self.cards(hall)], [3, 8])
        hall = taken_hall(look=("out", 7, 3, "brow"), shown=(3, "brow"), seen=(3, "chin"))
        self.assertEqual([card[4] for card in self.cards(hall)], [3, 30])

    def test_numbers_and_one_that_takes_twice(self):
        hall = Hall(2, 120)
        hall.hold(0, SELLS_MANY)
        for number in range(5):
            self.assertEqual(hall.take(1, 0, SELLS_MANY, (1, "brow"), (1, "brow")), number)
        self.assertEqual(hall.offers(), [])

    def test_refused_alone(self):
        hall = Hall(4, 120)
        hall.hold(0, SELLS)
        one = (1, "chin")
        for member in (-1, 4, 12, 10 ** 19):
            self.refuse(NoMember, hall, "take", member, 0, SELLS, one, one)
        for offer in (-1, 1, 2, 10 ** 19, -10 ** 19):
            self.refuse(NoOffer, hall, "take", 1, offer, SELLS, one, one)
        self.refuse(Own, hall, "take", 0, 0, SELLS, one, one)
        self.refuse(TooMany, hall, "take", 1, 0, SELLS, (4, "chin"), (4, "chin"))
        self.refuse(TooMany, hall, "take", 1, 0, SELLS, (1, "brow"), (1, "chin"))
        hall.hold(1, ("in", 7, 8, "chin"))
        self.refuse(TooMany, hall, "take", 2, 1, ("in", 7, 3, "chin"), (8, "chin"), (3, "chin"))
        hall.close()
        self.refuse(Closed, hall, "take", 1, 0, SELLS, one, one)

    def test_no_sign_of_anything(self):
        hall = Hall(4, 120)
        hall.hold(0, SELLS)
        for thing in ANYTHING + [deep_thing(), list(SELLS), SELLS[:3], [1, "chin"], ("chin", 1), (0, "chin"), SELLS]:
            if not is_sign(thing):
                self.refuse(NoSign, hall, "take", 1, 0, thing, (1, "chin"), (1, "chin"))
            if not is_showing(thing):
                self.refuse(NoSign, hall, "take", 1, 0, SELLS, thing, (1, "chin"))
                self.refuse(NoSign, hall, "take", 1, 0, SELLS, (1, "chin"), thing)

    def test_not_seen(self):
        hall = Hall(4, 120)
        hall.hold(0, SELLS)
        one = (1, "chin")
        for look in [
            ("out", 6, 3, "chin"), ("out", 0, 3, "chin"), ("out", 7, 4, "chin"), ("in", 2, 3, "chin"),
            ("in", 7, 8, "chin"), ("out", 2, 3, "brow"), ("in", 2, 8, "brow"), ("out", 3, 7, "chin"),
        ]:
            self.refuse(NotSeen, hall, "take", 1, 0, look, one, one)
        for seen in [(2, "chin"), (6, "brow"), (5, "chin"), (9, "chin")]:
            self.refuse(NotSeen, hall, "take", 1, 0, SELLS, one, seen)
        for look, seen in [(SELLS, (6, "chin")), (BUYS, (1, "brow")), (("out", 2, 3, "chin"), one)]:
            self.assertEqual(hall.take(1, 0, look, one, seen), 0)
            hall.back()

    def test_of_two_the_one_told_first(self):
        one = (1, "chin")
        far = ("out", 0, 3, "chin")
        hall = Hall(4, 120)
        hall.hold(0, SELLS)
        for kind, parts in [
            (NoMember, (4, 1, SELLS, one, one)), (NoMember, (4, 0, "x", one, one)), (NoMember, (4, 0, far, one, one)),
            (NoMember, (-1, 0, SELLS, (9, "chin"), (9, "chin"))),
            (NoOffer, (1, 1, "x", one, one)), (NoOffer, (0, 1, far, one, one)), (NoOffer, (1, 1, SELLS, one, "x")),
            (NoOffer, (1, -1, SELLS, (9, "chin"), (9, "chin"))),
            (Own, (0, 0, "x", one, one)), (Own, (0, 0, SELLS, "x", one)), (Own, (0, 0, SELLS, one, "x")),
            (Own, (0, 0, far, one, one)), (Own, (0, 0, SELLS, one, (5, "chin"))),
            (Own, (0, 0, SELLS, (9, "chin"), (9, "chin"))),
            (NoSign, (1, 0, far, "x", one)), (NoSign, (1, 0, far, one, "x")), (NoSign, (1, 0, "x", one, (5, "chin"))),
            (NoSign, (1, 0, "x", (9, "brow"), (9, "brow"))), (NoSign, (1, 0, SELLS, (9, "brow"), "x")),
            (NotSeen, (1, 0, far, (9, "chin"), (9, "chin"))), (NotSeen, (1, 0, SELLS, (9, "chin"), (8, "chin"))),
        ]:
            self.refuse(kind, hall, "take", *parts)
        hall.close()
        for parts in [
            (4, 0, SELLS, one, one), (1, 0, SELLS, one, one), (0, 0, SELLS, one, one), (1, 0, "x", one, one),
            (1, 0, far, one, one), (1, 0, SELLS, (9, "chin"), (9, "chin")),
        ]:
            self.refuse(Closed, hall, "take", *parts)


class HandedIn(HallCase):
    def test_agreed(self):
        for first, second in [(0, 1), (1, 0)]:
            hall = taken_hall()
            self.assertEqual(hall.bargain(0)[8], "open")
            self.assertEqual(hall.hand_in(first, 0), "waits")
            self.assertEqual((hall.bargain(0)[8], hall.deals(), hall.prints()), ("half", [], []))
            self.assertEqual(hall.hand_in(second, 0), "done")
            self.assertEqual(hall.bargain(0)[8], "done")
            self.assertEqual((hall.deals(), hall.prints()), ([(0, 1, 117, 2, 0)], [(0, 117, 2)]))
            self.assertEqual(hall.stands_now(), [(-2, 234), (2, -234), (0, 0), (0, 0)])
            self.assertEqual(hall.deliveries(), (1, [(0, 1, 2)]))
            self.assertEqual(hall.called(), 117)

    def test_the_holder_buys(self):
        hall = handed_hall(sign=BUYS, look=BUYS)
        self.assertEqual((hall.deals(), hall.prints()), ([(1, 0, 117, 2, 0)], [(0, 117, 2)]))
        self.assertEqual(hall.deliveries(), (1, [(1, 0, 2)]))

    def test_quarrels(self):
        for make, parts in [
            (price_quarrel, ("price",)), (crossed_quarrel, ("price",)), (side_quarrel, ("side",)),
            (count_quarrel, ("count",)),
        ]:
            hall = make()
            self.assertEqual(hall.bargain(0)[8], "quarrel")
            self.assertEqual(hall.quarrel(0), parts)
            self.assertEqual(hall.book()[-2:], [("in", 0, 0, "waits"), ("in", 1, 0, "quarrel")])
            self.assertEqual((hall.deals(), hall.prints(), hall.called()), ([], [], 120))

    def test_late_cards(self):
        hall = Hall(3, 120)
        hall.hold(0, SELLS)
        hall.take(1, 0, SELLS, (1, "chin"), (1, "chin"))
        hall.go_on(5)
        hall.take(2, 0, SELLS, (2, "chin"), (2, "chin"))
        hall.go_on(7)
        for member, number in [(0, 1), (2, 1), (1, 0), (0, 0)]:
            hall.hand_in(member, number)
        self.assertEqual(hall.prints(), [(5, 117, 2), (0, 117, 1)])
        self.assertEqual(hall.deals(), [(0, 2, 117, 2, 5), (0, 1, 117, 1, 0)])

    def test_refused_alone(self):
        hall = taken_hall()
        for member in (-1, 4, 12, 10 ** 19):
            self.refuse(NoMember, hall, "hand_in", member, 0)
        for number in (-1, 1, 2, 10 ** 19, -10 ** 19):
            self.refuse(NoBargain, hall, "hand_in", 0, number)
        for member in (2, 3):
            self.refuse(NotTheirs, hall, "hand_in", member, 0)
        hall.hand_in(0, 0)
        self.refuse(Twice, hall, "hand_in", 0, 0)
        hall.hand_in(1, 0)
        self.refuse(Twice, hall, "hand_in", 0, 0)
        self.refuse(Twice, hall, "hand_in", 1, 0)

    def test_twice_in_a_quarrel_and_behind_it(self):
        for make in (price_quarrel, side_quarrel, crossed_quarrel):
            hall = make()
            self.refuse(Twice, hall, "hand_in", 0, 0)
            hall.settle(0)
            self.refuse(Twice, hall, "hand_in", 1, 0)

    def test_of_two_the_one_told_first(self):
        hall = handed_hall()
        self.refuse(NoMember, hall, "hand_in", 4, 1)
        self.refuse(NoMember, hall, "hand_in", -1, 0)
        self.refuse(NoBargain, hall, "hand_in", 0, 1)
        self.refuse(NoBargain, hall, "hand_in", 3, -1)
        self.refuse(NotTheirs, hall, "hand_in", 2, 0)


class Settled(HallCase):
    def test_by_the_called_price(self):
        hall = price_quarrel()
        self.assertEqual(hall.settle(0), ("done", 120, 2))
        self.assertEqual(hall.bargain(0)[8], "done")
        self.assertEqual((hall.deals(), hall.prints()), ([(0, 1, 120, 2, 0)], [(0, 120, 2)]))
        self.assertEqual(hall.quarrel(0), ("price",))

    def test_by_the_lesser_count(self):
        hall = count_quarrel()
        self.assertEqual(hall.settle(0), ("done", 117, 2))
        self.assertEqual(hall.deals(), [(0, 1, 117, 2, 0)])

    def test_where_the_holder_buys(self):
        hall = handed_hall(sign=("in", 2, 3, "chin"), look=("in", 7, 3, "chin"))
        self.assertEqual(hall.settle(0), ("done", 120, 2))
        self.assertEqual(hall.deals(), [(1, 0, 120, 2, 0)])
        hall = handed_hall(sign=("in", 7, 3, "chin"), look=("in", 2, 3, "chin"))
        self.assertEqual(hall.settle(0), ("left",))

    def test_void_for_ever(self):
        hall = side_quarrel()
        self.assertEqual(hall.settle(0), ("void",))
        self.assertEqual(hall.bargain(0)[8], "void")
        self.assertEqual((hall.deals(), hall.prints()), ([], []))
        self.refuse(NoQuarrel, hall, "settle", 0)
        self.refuse(NoQuarrel, hall, "consent", 0, 0, 117, 2)
        self.assertEqual(hall.close(), [])

    def test_left_it_is_a_quarrel_still(self):
        hall = crossed_quarrel()
        for _ in range(3):
            self.assertEqual(hall.settle(0), ("left",))
            self.assertEqual(hall.bargain(0)[8], "quarrel")
        self.assertEqual((hall.deals(), hall.prints()), ([], []))
        self.assertEqual(hall.book()[-3:], [("settled", 0, ("left",))] * 3)

    def test_the_price_called_at_the_bargain_is_kept(self):
        hall = Hall(4, 120)
        hall.hold(0, SELLS)
        hall.take(1, 0, ("out", 2, 3, "chin"), (1, "chin"), (1, "chin"))
        hall.hold(2, ("out", 5, 1, "chin"))
        hall.go_on(3)
        hall.take(3, 1, ("out", 5, 1, "chin"), (1, "chin"), (1, "chin"))
        for member, number in [(2, 1), (3, 1), (0, 0), (1, 0)]:
            hall.hand_in(member, number)
        self.assertEqual(hall.called(), 125)
        self.assertEqual(hall.settle(0), ("done", 120, 1))
        self.assertEqual(hall.deals()[-1], (0, 1, 120, 1, 0))
        self.assertEqual(hall.called(), 125)

    def test_refused(self):
        hall = taken_hall()
        for number in (-1, 1, 10 ** 19):
            self.refuse(NoBargain, hall, "settle", number)
        self.refuse(NoQuarrel, hall, "settle", 0)
        hall.hand_in(1, 0)
        self.refuse(NoQuarrel, hall, "settle", 0)
        hall.hand_in(0, 0)
        self.refuse(NoQuarrel, hall, "settle", 0)
        hall = price_quarrel()
        hall.settle(0)
        self.refuse(NoQuarrel, hall, "settle", 0)

    def test_a_quarrel_is_none_ahead_of_both_cards(self):
        hall = taken_hall(look=("out", 2, 3, "chin"))
        self.assertEqual(hall.quarrel(0), ("price",))
        self.refuse(NoQuarrel, hall, "settle", 0)
        hall.hand_in(0, 0)
        self.refuse(NoQuarrel, hall, "settle", 0)
        self.refuse(NoQuarrel, hall, "consent", 0, 0, 117, 2)


class Consented(HallCase):
    def test_to_the_same(self):
        for make, first in itertools.product([price_quarrel, crossed_quarrel, count_quarrel], (0, 1)):
            hall = make()
            self.assertEqual(hall.consent(first, 0, 119, 7), "waits")
            self.assertEqual((hall.bargain(0)[8], hall.deals()), ("quarrel", []))
            self.assertEqual(hall.consent(1 - first, 0, 119, 7), "done")
            self.assertEqual(hall.bargain(0)[8], "done")
            self.assertEqual((hall.deals(), hall.prints()), ([(0, 1, 119, 7, 0)], [(0, 119, 7)]))
            self.refuse(NoQuarrel, hall, "consent", first, 0, 119, 7)
            self.refuse(NoQuarrel, hall, "settle", 0)

    def test_where_the_holder_buys(self):
        hall = handed_hall(sign=BUYS, look=("in", 2, 3, "chin"))
        hall.consent(0, 0, 1, 1)
        hall.go_on(1)
        self.assertEqual(hall.consent(1, 0, 1, 1), "done")
        self.assertEqual((hall.deals(), hall.prints()), ([(1, 0, 1, 1, 0)], [(0, 1, 1)]))

    def test_to_something_else(self):
        hall = crossed_quarrel()
        for member, price, count in [(0, 119, 2), (1, 120, 2), (0, 120, 1), (1, 119, 2), (1, 119, 1), (0, 1, 120)]:
            self.assertEqual(hall.consent(member, 0, price, count), "waits")
        self.assertEqual(hall.deals(), [])
        self.assertEqual(hall.consent(0, 0, 119, 1), "done")
        self.assertEqual(hall.deals(), [(0, 1, 119, 1, 0)])

    def test_only_the_last_consent_counts(self):
        hall = crossed_quarrel()
        hall.consent(0, 0, 119, 2)
        hall.consent(0, 0, 118, 2)
        self.assertEqual(hall.consent(1, 0, 119, 2), "waits")
        self.assertEqual(hall.consent(1, 0, 118, 2), "done")

    def test_one_member_twice_is_not_both(self):
        hall = crossed_quarrel()
        self.assertEqual([hall.consent(0, 0, 119, 2) for _ in range(3)], ["waits"] * 3)
        self.assertEqual(hall.consent(1, 0, 119, 2), "done")

    def test_ahead_of_a_settling_that_leaves_it_and_behind(self):
        hall = crossed_quarrel()
        hall.consent(0, 0, 119, 2)
        self.assertEqual(hall.settle(0), ("left",))
        self.assertEqual(hall.consent(1, 0, 119, 2), "done")

    def test_one_bargains_consents_are_not_anothers(self):
        hall = Hall(3, 120)
        hall.hold(0, ("out", 2, 3, "chin"))
        for number in (0, 1):
            hall.take(1, 0, SELLS, (1, "chin"), (1, "chin"))
            hall.hand_in(0, number)
            hall.hand_in(1, number)
        self.assertEqual(hall.consent(0, 0, 119, 2), "waits")
        self.assertEqual(hall.consent(1, 1, 119, 2), "waits")
        self.assertEqual(hall.consent(0, 1, 119, 2), "done")
        self.assertEqual([hall.bargain(number)[8] for number in (0, 1)], ["quarrel", "done"])

    def test_a_settling_that_does_it_goes_ahead_of_a_consent_that_waits(self):
        hall = price_quarrel()
        hall.consent(0, 0, 119, 1)
        self.assertEqual(hall.settle(0), ("done", 120, 2))
        self.refuse(NoQuarrel, hall, "consent", 1, 0, 119, 1)
        self.assertEqual(hall.deals(), [(0, 1, 120, 2, 0)])

    def test_bounds(self):
        hall = crossed_quarrel()
        for price, count in [(0, 1), (10 ** 8, 10 ** 6), (0, 10 ** 6), (10 ** 8, 1)]:
            self.assertEqual(hall.consent(0, 0, price, count), "waits")
        for price in (-1, 10 ** 8 + 1, 10 ** 19, -10 ** 19):
            self.refuse(BadNumber, hall, "consent", 0, 0, price, 1)
        for count in (0, -1, 10 ** 6 + 1, 10 ** 19, -10 ** 19):
            self.refuse(BadNumber, hall, "consent", 0, 0, 120, count)
        self.assertEqual(hall.consent(1, 0, 10 ** 8, 1), "done")

    def test_refused_alone(self):
        hall = crossed_quarrel()
        for member in (-1, 4, 10 ** 19):
            self.refuse(NoMember, hall, "consent", member, 0, 119, 2)
        for number in (-1, 1, 10 ** 19):
            self.refuse(NoBargain, hall, "consent", 0, number, 119, 2)
        for member in (2, 3):
            self.refuse(NotTheirs, hall, "consent", member, 0, 119, 2)
        for hall in (taken_hall(), handed_hall()):
            self.refuse(NoQuarrel, hall, "consent", 0, 0, 119, 2)
        hall = side_quarrel()
        self.refuse(NoWay, hall, "consent", 0, 0, 119, 2)
        self.refuse(NoWay, hall, "consent", 1, 0, 119, 2)

    def test_of_two_the_one_told_first(self):
        for make in (crossed_quarrel, side_quarrel, taken_hall, handed_hall):
            hall = make()
            self.refuse(NoMember, hall, "consent", 4, 1, -1, 0)
            self.refuse(NoMember, hall, "consent", 4, 0, 119, 2)
            self.refuse(NoBargain, hall, "consent", 0, 1, -1, 0)
            self.refuse(NoBargain, hall, "consent", 2, -1, 119, 2)
            self.refuse(NotTheirs, hall, "consent", 2, 0, 119, 2)
            self.refuse(NotTheirs, hall, "consent", 3, 0, -1, 2)
        for hall in (taken_hall(), handed_hall(), taken_hall(look=BUYS)):
            self.refuse(NoQuarrel, hall, "consent", 0, 0, -1, 2)
            self.refuse(NoQuarrel, hall, "consent", 0, 0, 119, 0)
        self.refuse(NoWay, side_quarrel(), "consent", 0, 0, -1, 2)
        self.refuse(NoWay, side_quarrel(), "consent", 1, 0, 119, 0)


class GoneOnAndClosed(HallCase):
    def test_moments(self):
        hall = Hall(2, 120)
        self.assertEqual(hall.now(), 0)
        for ticks, now in [(1, 1), (1000, 1001), (999, 2000)]:
            self.assertIsNone(hall.go_on(ticks))
            self.assertEqual(hall.now(), now)
        for ticks in (0, -1, 1001, 10 ** 19, -10 ** 19):
            self.refuse(BadNumber, hall, "go_on", ticks)
        hall.close()
        self.refuse(Closed, hall, "go_on", 1)
        self.refuse(Closed, hall, "go_on", 0)
        self.refuse(Closed, hall, "go_on", 1001)

    def test_offers_stand_on(self):
        hall = Hall(2, 120)
        hall.hold(0, SELLS)
        before = hall.offers()
        hall.go_on(1000)
        self.assertEqual(hall.offers(), before)

    def test_closed(self):
        hall = Hall(4, 120)
        hall.hold(0, SELLS)
        hall.hold(1, BUYS)
        self.assertIs(hall.is_open(), True)
        self.assertEqual(hall.close(), [])
        self.assertIs(hall.is_open(), False)
        self.assertEqual(hall.offers(), [])
        self.refuse(Closed, hall, "close")

    def every_word(self):
        """A hall with bargains open, half, quarrel, done, void, and a quarrel that is left."""
        hall = Hall(3, 120)
        hall.hold(0, SELLS_MANY)
        hall.hold(1, ("out", 2, 3, "chin"))
        one = (1, "chin")
        for offer, look in [
            (0, SELLS_MANY), (0, SELLS_MANY), (0, ("out", 2, 5, "brow")), (0, SELLS_MANY), (0, ("in",) + SELLS_MANY[1:]),
            (1, SELLS),
        ]:
            hall.take(2, offer, look, one, one)
        hall.hand_in(0, 1)
        for number in (2, 3, 4, 5):
            hall.hand_in(2, number)
            hall.hand_in(1 if number == 5 else 0, number)
        hall.settle(4)
        hall.settle(5)
        return hall

    def test_what_is_neither_done_nor_void_is_told(self):
        hall = self.every_word()
        words = [hall.bargain(number)[8] for number in range(6)]
        self.assertEqual(words, ["open", "half", "quarrel", "done", "void", "quarrel"])
        self.assertEqual(hall.close(), [0, 1, 2, 5])
        self.assertEqual(hall.book()[-1], ("closed", (0, 1, 2, 5)))
        self.assertEqual([hall.bargain(number)[8] for number in range(6)], words)

    def test_what_is_still_done_behind_it(self):
        hall = self.every_word()
        hall.go_on(9)
        hall.close()
        self.assertEqual([hall.hand_in(2, 0), hall.hand_in(0, 0)], ["waits", "done"])
        self.assertEqual(hall.hand_in(2, 1), "done")
        self.assertEqual(hall.settle(2), ("done", 120, 1))
        self.assertEqual(hall.settle(5), ("left",))
        self.assertEqual([hall.consent(1, 5, 121, 3), hall.consent(2, 5, 121, 3)], ["waits", "done"])
        self.assertEqual([hall.bargain(number)[8] for number in range(6)], ["done"] * 4 + ["void", "done"])
        self.assertEqual(len(hall.deals()), 5)
        # Three lots were sold at 117, and three at 121.
        self.assertEqual(hall.called(), 121)
        self.refuse(Closed, hall, "close")

    def test_taken_back_the_hall_is_open_again(self):
        hall = self.every_word()
        before = everything(hall)
        hall.close()
        hall.back()
        self.assertEqual(everything(hall), before)
        self.assertEqual(hall.take(2, 0, SELLS_MANY, (1, "chin"), (1, "chin")), 6)


class Told(HallCase):
    def test_no_bargain(self):
        hall = taken_hall()
        for number in (-1, 1, 2, 10 ** 19, -10 ** 19):
            self.refuse(NoBargain, hall, "bargain", number)
            self.refuse(NoBargain, hall, "quarrel", number)
        refused(self, NoBargain, Hall(2, 0).bargain, 0)
        refused(self, NoBargain, Hall(2, 0).quarrel, 0)

    def test_offers_by_their_numbers_where_parts_were_taken(self):
        hall = Hall(4, 120)
        for member in range(3):
            hall.hold(member, SELLS)
        hall.take(3, 0, SELLS, (1, "chin"), (1, "chin"))
        hall.take(3, 1, SELLS, (3, "chin"), (3, "chin"))
        self.assertEqual([(offer[0], offer[4]) for offer in hall.offers()], [(0, 2), (2, 3)])

    def test_lists_told_are_the_askers_own(self):
        hall = price_quarrel()
        hall.settle(0)
        hall.hold(0, SELLS)
        before = everything(hall)
        for name in ("offers", "prints", "deals", "stands_now", "book"):
            told = getattr(hall, name)()
            self.assertIs(type(told), list)
            told.append("other")
            told[0] = "other"
            told = getattr(hall, name)()
            told.clear()
        hall.deliveries()[1].clear()
        self.assertEqual(everything(hall), before)
        numbers = hall.close()
        numbers.append(7)
        self.assertEqual(hall.book()[-1], ("closed", ()))
        hall.back()
        self.assertEqual(everything(hall), before)

    def test_lists_told_stay_when_more_is_done(self):
        hall = price_quarrel()
        hall.hold(2, SELLS)
        told = everything(hall)
        kept = everything(hall)
        hall.settle(0)
        hall.hold(3, SELLS)
        hall.go_on(1)
        hall.lower(2, "out")
        self.assertEqual(told, kept)
        for _ in range(4):
            hall.back()
        self.assertEqual(everything(hall), kept)

    def test_kinds(self):
        hall = price_quarrel()
        hall.hold(2, SELLS)
        hall.settle(0)
        self.assertEqual([type(part) for part in (
            hall.bargain(0), hall.quarrel(0), hall.deliveries(), hall.offers()[0], hall.prints()[0], hall.deals()[0],
            hall.stands_now()[0], hall.book()[0],
        )], [tuple] * 8)

    def test_two_halls_beside_one_another(self):
        one, other = Hall(4, 120), Hall(4, 120)
        one.hold(0, SELLS)
        one.take(1, 0, SELLS, (1, "chin"), (1, "chin"))
        one.go_on(3)
        self.assertEqual(everything(other), everything(Hall(4, 120)))
        other.hold(2, BUYS)
        self.assertEqual(one.now(), 3)
        self.assertEqual([offer[1] for offer in one.offers()], [0])
        one.close()
        self.assertTrue(other.is_open())
        refused(self, NoBargain, other.bargain, 0)
        other.back()
        refused(self, NothingLeft, other.back)
        self.assertEqual(one.bargain(0)[:2], (0, 1))


class TakenBack(HallCase):
    def test_nothing_left(self):
        hall = Hall(2, 120)
        self.refuse(NothingLeft, hall, "back")
        hall.go_on(1)
        self.assertIsNone(hall.back())
        self.refuse(NothingLeft, hall, "back")

    def test_what_was_refused_is_not_taken_back(self):
        hall = Hall(2, 120)
        hall.go_on(5)
        refused(self, BadNumber, hall.go_on, 0)
        refused(self, NoMember, hall.hold, 2, SELLS)
        refused(self, NoBargain, hall.settle, 0)
        hall.back()
        self.assertEqual(everything(hall), everything(Hall(2, 120)))
        self.refuse(NothingLeft, hall, "back")

    def test_each_deed_alone(self):
        for make, name, parts in [
            (lambda: Hall(4, 120), "hold", (0, SELLS)), (taken_hall, "hold", (0, SELLS)),
            (taken_hall, "lower", (0, "out")), (taken_hall, "take", (2, 0, SELLS, (1, "chin"), (1, "chin"))),
            (taken_hall, "take", (2, 0, BUYS, (2, "chin"), (2, "brow"))), (taken_hall, "hand_in", (1, 0)),
            (taken_hall, "hand_in", (0, 0)), (price_quarrel, "settle", (0,)), (side_quarrel, "settle", (0,)),
            (crossed_quarrel, "settle", (0,)), (crossed_quarrel, "consent", (0, 0, 119, 2)),
            (taken_hall, "go_on", (9,)), (taken_hall, "close", ()),
        ]:
            hall = make()
            before = everything(hall)
            told = getattr(hall, name)(*parts)
            after = everything(hall)
            self.assertNotEqual(after, before)
            hall.back()
            self.assertEqual(everything(hall), before)
            self.assertEqual(getattr(hall, name)(*parts), told)
            self.assertEqual(everything(hall), after)
            hall.back()
            self.assertEqual(everything(hall), before)

    def test_a_settling_that_left_it_is_a_deed(self):
        hall = crossed_quarrel()
        hall.go_on(1)
        hall.settle(0)
        hall.back()
        self.assertEqual(hall.now(), 1)
        hall.back()
        self.assertEqual(hall.now(), 0)

    def test_a_consent_that_was_taken_back_was_never_given(self):
        hall = crossed_quarrel()
        hall.consent(0, 0, 119, 2)
        hall.back()
        self.assertEqual(hall.consent(1, 0, 119, 2), "waits")
        hall.back()
        hall.consent(0, 0, 118, 2)
        hall.consent(0, 0, 119, 2)
        hall.back()
        self.assertEqual(hall.consent(1, 0, 118, 2), "done")
        hall.back()
        self.assertEqual(hall.bargain(0)[8], "quarrel")
        self.assertEqual((hall.deals(), hall.prints()), ([], []))

    def test_a_card_that_was_taken_back_was_never_in(self):
        hall = taken_hall()
        hall.hand_in(0, 0)
        hall.back()
        self.assertEqual(hall.bargain(0)[8], "open")
        self.assertEqual(hall.hand_in(0, 0), "waits")
        self.assertEqual(hall.hand_in(1, 0), "done")
        hall.back()
        self.assertEqual(hall.bargain(0)[8], "half")
        self.assertEqual(hall.hand_in(1, 0), "done")

    def test_numbers_are_given_again(self):
        hall = taken_hall()
        hall.back()
        self.assertEqual(hall.take(2, 0, SELLS, (1, "chin"), (1, "chin")), 0)
        self.assertEqual(hall.bargain(0)[1], 2)
        for _ in range(2):
            hall.back()
        self.assertEqual(hall.hold(3, BUYS), 0)

    def test_the_offer_that_went_down_stands_again(self):
        hall = Hall(4, 120)
        hall.hold(0, SELLS)
        hall.take(1, 0, SELLS, (1, "chin"), (1, "chin"))
        hall.hold(0, SELLS)
        hall.back()
        self.assertEqual(hall.offers(), [(0, 0, SELLS, 117, 2)])
        hall.take(1, 0, SELLS, (2, "chin"), (2, "chin"))
        self.assertEqual(hall.offers(), [])
        hall.back()
        self.assertEqual(hall.offers(), [(0, 0, SELLS, 117, 2)])


class Booked(unittest.TestCase):
    def test_a_row_for_each_deed(self):
        hall = Hall(4, 120)
        self.assertEqual(hall.book(), [])
        hall.hold(0, ("out", 2, 3, "chin"))
        hall.hold(2, BUYS)
        hall.lower(2, "in")
        hall.take(1, 0, SELLS, (2, "chin"), (7, "chin"))
        hall.go_on(40)
        hall.hand_in(1, 0)
        hall.hand_in(0, 0)
        hall.settle(0)
        hall.consent(0, 0, 119, 2)
        hall.close()
        hall.consent(1, 0, 119, 2)
        self.assertEqual(hall.book(), [
            ("held", 0, ("out", 2, 3, "chin"), 0), ("held", 2, BUYS, 1), ("lowered", 2, "in"),
            ("took", 1, 0, SELLS, (2, "chin"), (7, "chin"), 0), ("passed", 40), ("in", 1, 0, "waits"),
            ("in", 0, 0, "quarrel"), ("settled", 0, ("left",)), ("consent", 0, 0, 119, 2, "waits"),
            ("closed", (0,)), ("consent", 1, 0, 119, 2, "done"),
        ])
        for length in range(11, 0, -1):
            self.assertEqual(len(hall.book()), length)
            hall.back()
        self.assertEqual(hall.book(), [])


if __name__ == "__main__":
    unittest.main()
