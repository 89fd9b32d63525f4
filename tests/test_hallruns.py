"""Promises [3] and [20] to [28] over whole runs, held against the plain hall that is written word by word."""

import itertools
import random
import time
import unittest

from helps import SIGNS, everything, refused, shuffled
from palmhall.board import board, lates, rows_of
from palmhall.deliveries import fewest_deliveries
from palmhall.errors import HallError, NothingLeft
from palmhall.halls import Hall
from palmhall.stands import gain, pieces, stands
from plainhall import PlainHall, drawn_deed, drawn_take

DELIVERIES = 8


def do(hall, deed):
    """What the hall tells of a deed, or with what it refuses it."""
    name, *parts = deed
    try:
        return getattr(hall, name)(*parts)
    except HallError as error:
        return type(error)


def is_refusal(told):
    return isinstance(told, type)


class AgainstThePlainHall(unittest.TestCase):
    def same(self, hall, plain):
        told, wanted = everything(hall), everything(plain)
        many, rows = told[DELIVERIES]
        told[DELIVERIES] = None
        self.assertEqual(told, wanted)
        given = [0] * plain.many
        for giver, taker, count in rows:
            given[giver] += count
            given[taker] -= count
        self.assertEqual(given, [-lots for lots, coins in plain.stands_now()])
        self.assertEqual(many, fewest_deliveries(given)[0])

    def run_one(self, seed, members, first, length, backs, often):
        chance = random.Random(seed)
        hall, plain = Hall(members, first), PlainHall(members, first)
        seen = set()
        for at in range(length):
            deed = ("back",) if chance.random() < backs else drawn_deed(chance, plain)
            told, wanted = do(hall, deed), do(plain, deed)
            self.assertEqual((told, type(told)), (wanted, type(wanted)), (seed, at, deed))
            seen.add((deed[0], told if is_refusal(told) or isinstance(told, (str, tuple)) else None))
            if at % often == 0 or is_refusal(told):
                self.same(hall, plain)
        self.same(hall, plain)
        while plain.before:
            hall.back()
            plain.back()
            if chance.random() < 0.1:
                self.same(hall, plain)
        self.same(hall, plain)
        self.assertEqual(everything(hall), everything(Hall(members, first)))
        refused(self, NothingLeft, hall.back)
        return seen

    def test_short_runs(self):
        seen = set()
        for seed, members in itertools.product(range(12), (2, 3, 5)):
            seen |= self.run_one(seed, members, 120, 60, 0.05, 3)
        names = {(name, getattr(told, "__name__", told if isinstance(told, str) else None)) for name, told in seen}
        # So much must have come up, else the runs say little.
        for name, told in [
            ("hold", "NoMember"), ("lower", "NoOffer"), ("take", "Own"), ("take", "NotSeen"), ("take", "TooMany"),
            ("take", "NoOffer"), ("hand_in", "waits"), ("hand_in", "done"), ("hand_in", "quarrel"),
            ("hand_in", "Twice"), ("hand_in", "NotTheirs"), ("settle", "NoQuarrel"), ("settle", "NoBargain"),
            ("consent", "waits"), ("consent", "done"), ("consent", "NoWay"), ("consent", "BadNumber"),
            ("go_on", "BadNumber"), ("hold", "Closed"),
        ]:
            self.assertIn((name, told), names)
        ways = {told[0] for name, told in seen if name == "settle" and isinstance(told, tuple)}
        self.assertEqual(ways, {"void", "done", "left"})

    def test_other_first_prices(self):
        for seed, first in enumerate([0, 1, 4, 5, 9, 10, 10 ** 8 - 1, 10 ** 8]):
            self.run_one(100 + seed, 4, first, 60, 0.05, 5)

    def test_runs_with_much_taken_back(self):
        for seed in range(8):
            self.run_one(200 + seed, 4, 120, 100, 0.4, 4)

    def test_long_runs(self):
        for seed, members in [(301, 12), (302, 6), (303, 3)]:
            self.run_one(seed, members, 120, 400, 0.03, 20)


class Whole(unittest.TestCase):
    def drawn_hall(self, seed, length=150, members=5):
        """A hall and the deeds that it did."""
        chance = random.Random(seed)
        hall, plain = Hall(members, 120), PlainHall(members, 120)
        deeds = []
        while len(deeds) < length:
            deed = drawn_deed(chance, plain)
            if deed != ("close",) and not is_refusal(do(plain, deed)):
                do(hall, deed)
                deeds.append(deed)
        return hall, deeds

    def test_what_was_taken_back_was_never_done(self):
        chance = random.Random(61)
        for seed in range(4):
            hall, deeds = self.drawn_hall(400 + seed)
            kept = chance.randrange(len(deeds))
            for _ in range(len(deeds) - kept):
                hall.back()
            other = Hall(5, 120)
            for deed in deeds[:kept]:
                do(other, deed)
            self.assertEqual(everything(hall), everything(other))
            for deed in deeds[kept:]:
                self.assertEqual(do(hall, deed), do(other, deed))
            self.assertEqual(everything(hall), everything(other))

    def test_all_taken_back_and_told_again(self):
        for seed in range(3):
            hall, deeds = self.drawn_hall(410 + seed, length=100)
            wanted = everything(hall)
            ahead = []
            for _ in deeds:
                ahead.append(everything(hall))
                hall.back()
            refused(self, NothingLeft, hall.back)
            self.assertEqual(everything(hall), everything(Hall(5, 120)))
            for deed in deeds:
                do(hall, deed)
                self.assertEqual(everything(hall), ahead.pop())
            self.assertEqual(everything(hall), wanted)

    def test_what_all_bought_is_what_they_sold_at_every_moment(self):
        hall, deeds = self.drawn_hall(420)
        for _ in deeds:
            self.assertEqual([sum(part) for part in zip(*hall.stands_now())], [0, 0])
            self.assertEqual(hall.stands_now(), stands(5, hall.deals()))
            self.assertEqual(hall.prints(), [(moment, price, count) for _, _, price, count, moment in hall.deals()])
            hall.back()

    def test_what_a_member_gained_is_what_it_was_paid_and_what_is_left_at_the_price(self):
        hall, deeds = self.drawn_hall(421)
        deals = hall.deals()
        self.assertGreater(len(deals), 10)
        for member, (lots, coins) in enumerate(hall.stands_now()):
            self.assertEqual(gain(deals, member, hall.called()), coins + lots * hall.called())
            word, rows = pieces(deals, member)[1]
            self.assertEqual(sum(count for price, count in rows), abs(lots))
            self.assertEqual(word, "has" if lots > 0 else "owes" if lots < 0 else "nothing")

    def test_the_order_of_the_cards_changes_nothing_but_what_is_late(self):
        chance = random.Random(62)
        for seed in range(6):
            base, bargains = self.bargains(500 + seed)
            cards = [(told[who], number) for number, told in enumerate(bargains) for who in (0, 1)]
            told, late = set(), set()
            for _ in range(6):
                hall = Hall(4, 120)
                for deed in base:
                    do(hall, deed)
                for member, number in shuffled(chance, cards):
                    hall.hand_in(member, number)
                for number in shuffled(chance, list(range(len(bargains)))):
                    do(hall, ("settle", number))
                prints = hall.prints()
                told.add(repr((hall.stands_now(), board(prints), rows_of(prints), sorted(hall.deals()), hall.called())))
                late.add(tuple(lates(prints)))
                self.assertGreater(len(prints), 5)
            self.assertEqual(len(told), 1)
            self.assertGreater(len(late), 1)

    def bargains(self, seed):
        """Deeds that end in many bargains of several moments, without a card in, and the bargains."""
        chance = random.Random(seed)
        plain = PlainHall(4, 120)
        deeds = []
        while len(plain.bargains_made) < 20:
            deed = chance.choice([
                ("hold", chance.randrange(4), chance.choice(SIGNS)), drawn_take(chance, plain), ("go_on", 1),
            ])
            if not is_refusal(do(plain, deed)):
                deeds.append(deed)
        return deeds, [plain.bargain(number) for number in range(20)]

    def test_each_bargain_that_is_not_done_by_its_cards_tells_what_was_mistaken(self):
        hall, deeds = self.drawn_hall(422)
        for told, parts in everything(hall)[4]:
            holder, taker, sign, look, shown, seen, card, other, word = told
            self.assertEqual("side" in parts, sign[0] != look[0])
            if sign == look and shown == seen and "count" in parts:
                # Without a mistake the counts differ only where more were taken than were left.
                self.assertLess(card[4], other[4])

    def test_the_same_asked_again_is_answered_the_same(self):
        hall, deeds = self.drawn_hall(423)
        self.assertEqual(everything(hall), everything(hall))

    def test_400_deeds_in_a_short_time(self):
        start = time.monotonic()
        hall = Hall(12, 120)
        for _ in range(20):
            for member in range(5):
                hall.hold(member, ("out", 7, 3, "chin"))
                number = hall.take(11 - member, hall.offers()[-1][0], ("out", 2, 3, "chin"), (2, "chin"), (2, "chin"))
                hall.hand_in(member, number)
                hall.hand_in(11 - member, number)
        self.assertEqual(len(hall.book()), 400)
        for number in range(100):
            hall.back()
        self.assertEqual(len(hall.book()), 300)
        for _ in range(300):
            everything(hall)
            hall.back()
        refused(self, NothingLeft, hall.back)
        self.assertLess(time.monotonic() - start, 20)


if __name__ == "__main__":
    unittest.main()
