"""Promise [31], and [2] where it speaks of the desk."""

import itertools
import random
import unittest

from helps import ANYTHING, deep_thing, everything, refused
from palmhall.board import board, lates
from palmhall.desk import Desk
from palmhall.errors import (
    BadNumber, Closed, HallError, NoBargain, NoMember, NoOffer, NoQuarrel, NoRow, NotSeen, NotTheirs, NothingLeft,
    NoWay, Own, TooMany, Twice,
)
from palmhall.halls import Hall
from plainhall import PlainHall, drawn_deed

# A run with every row of the interface, for a desk of four with first price 120, and what is answered.
RUN = [
    ("now", "0"), ("called", "120"), ("offers", "none"), ("board", "none"), ("late", "none"),
    ("stands", "0:0 0:0 0:0 0:0"),
    ("hold 0 s2x3c", "0"), ("hold 1 b5x1w", "1"), ("offers", "0:0:s2x3c:122:3 1:1:b5x1w:125:10"),
    ("lower 1 buy", "ok"), ("hold 1 s0x9w", "2"), ("lower 1 sell", "ok"), ("offers", "0:0:s2x3c:122:3"),
    ("take 1 0 s7x3c 1c 1c", "0"), ("offers", "0:0:s2x3c:122:2"), ("word 0", "open"), ("quarrel 0", "price"),
    ("cards 0", "0 sold 1 at 122 to 1 in 0 | 1 bought 1 at 117 from 0 in 0"),
    ("take 2 0 s2x3c 1c 1c", "1"), ("quarrel 1", "none"),
    ("pass 40", "ok"), ("now", "40"), ("take 3 0 b2x3c 2c 7c", "2"), ("quarrel 2", "side count"),
    ("cards 2", "0 sold 1 at 122 to 3 in 40 | 3 sold 2 at 122 to 0 in 40"), ("offers", "none"),
    ("in 1 0", "waits"), ("word 0", "half"), ("in 0 0", "quarrel"), ("word 0", "quarrel"), ("settle 0", "left"),
    ("in 3 2", "waits"), ("in 0 2", "quarrel"), ("settle 2", "void"), ("word 2", "void"),
    ("hold 2 s7x1w", "3"), ("take 3 3 s2x1w 4c 4c", "3"), ("in 2 3", "waits"), ("in 3 3", "quarrel"),
    ("settle 3", "done 120 4"), ("board", "120 120 120 120 120 120 4"), ("late", "none"),
    ("close", "0 1"), ("offers", "none"),
    ("in 0 1", "waits"), ("in 2 1", "done"), ("word 1", "done"), ("late", "1"),
    ("agree 0 0 119 5", "waits"), ("agree 1 0 119 5", "done"), ("late", "1 2"),
    ("board", "119 122 122 119 120 120 10"), ("called", "120"),
    ("stands", "-6:717 5:-595 -3:358 4:-480"),
    ("back", "ok"), ("stands", "-1:122 0:0 -3:358 4:-480"), ("word 0", "quarrel"),
]

# Each row of the interface, as it is written.
ROWS = [
    "hold 0 s7x3c", "take 1 0 s7x3c 2c 2c", "lower 0 buy", "lower 0 sell", "pass 5", "back", "in 0 0",
    "agree 0 0 119 2", "settle 0", "close", "now", "called", "offers", "cards 0", "word 0", "quarrel 0", "board",
    "late", "stands",
]


def told_by(desk, row):
    """What is answered, or with what it is refused."""
    try:
        return desk.say(row)
    except HallError as error:
        return type(error)


def row_of(deed):
    """The row that tells a deed; None where a number of it cannot be written."""
    name, *parts = deed
    if any(isinstance(part, int) and part < 0 for part in parts):
        return None
    words = {"hand_in": "in", "consent": "agree", "go_on": "pass"}
    if name == "lower":
        parts = [parts[0], {"in": "buy", "out": "sell"}[parts[1]]]
    return " ".join([words.get(name, name)] + [written(part) for part in parts])


def written(part):
    """A number, a word, a sign or a showing as it is written."""
    if not isinstance(part, tuple):
        return str(part)
    figure, place = part[-2:]
    head = {"in": "b", "out": "s"}[part[0]] + str(part[1]) + "x" if len(part) == 4 else ""
    return head + str(figure) + {"chin": "c", "brow": "w"}[place]


def answered(told):
    """The text of what a hall tells of a deed."""
    if told is None:
        return "ok"
    if isinstance(told, (list, tuple)):
        return " ".join(str(part) for part in told) or "none"
    return str(told)


class Rows(unittest.TestCase):
    def test_each_row(self):
        desk = Desk(4, 120)
        for row, wanted in RUN:
            told = desk.say(row)
            self.assertIs(type(told), str)
            self.assertEqual(told, wanted, row)
        self.assertEqual({row.split(" ")[0] for row, wanted in RUN}, {row.split(" ")[0] for row in ROWS})

    def test_close_tells_none_where_there_is_none(self):
        self.assertEqual(Desk(2, 0).say("close"), "none")

    def test_all_taken_back(self):
        desk = Desk(4, 120)
        for row, wanted in RUN:
            desk.say(row)
        deeds = len(desk.hall.book())
        for _ in range(deeds):
            self.assertEqual(desk.say("back"), "ok")
        refused(self, NothingLeft, desk.say, "back")
        for row, wanted in RUN:
            self.assertEqual(desk.say(row), wanted, row)

    def test_bounds_of_a_desk(self):
        for many, first in [(1, 120), (13, 120), (0, 0), (-1, 0), (2, -1), (2, 10 ** 8 + 1), (10 ** 19, 10 ** 19)]:
            refused(self, BadNumber, Desk, many, first)
        self.assertEqual(Desk(12, 10 ** 8).say("called"), "100000000")
        self.assertEqual(Desk(2, 0).say("stands"), "0:0 0:0")

    def test_say_stands_in_the_class_itself(self):
        self.assertTrue(callable(vars(Desk)["say"]))

    def test_two_desks_beside_one_another(self):
        one, other = Desk(4, 120), Desk(4, 120)
        one.say("hold 0 s7x3c")
        one.say("pass 3")
        self.assertEqual((other.say("offers"), other.say("now")), ("none", "0"))
        other.say("close")
        self.assertEqual(one.say("pass 1"), "ok")


class AgainstAHall(unittest.TestCase):
    def test_whole_runs(self):
        for seed, members in [(1, 2), (2, 4), (3, 12), (4, 5)]:
            chance = random.Random(seed)
            desk, hall, plain = Desk(members, 120), Hall(members, 120), PlainHall(members, 120)
            for _ in range(150):
                deed = ("back",) if chance.random() < 0.05 else drawn_deed(chance, plain)
                row = row_of(deed)
                if row is None:
                    continue
                self.assertEqual(told_by(desk, row), self.told(hall, deed), row)
                self.told(plain, deed)
                self.same(desk, hall)

    def told(self, hall, deed):
        name, *parts = deed
        try:
            return answered(getattr(hall, name)(*parts))
        except HallError as error:
            return type(error)

    def same(self, desk, hall):
        now, called, is_open, offers, bargains, prints, deals, stands, deliveries, book = everything(hall)
        self.assertEqual(desk.say("now"), str(now))
        self.assertEqual(desk.say("called"), str(called))
        self.assertEqual(desk.say("offers"), " ".join(":".join(map(written, offer)) for offer in offers) or "none")
        self.assertEqual(desk.say("stands"), " ".join(f"{lots}:{coins}" for lots, coins in stands))
        self.assertEqual(desk.say("late"), " ".join(map(str, lates(prints))) or "none")
        parts = [] if board(prints) is None else [
            *board(prints)[0], board(prints)[1], board(prints)[2], *board(prints)[3], board(prints)[4],
        ]
        self.assertEqual(desk.say("board"), " ".join(map(str, parts)) or "none")
        for number, (told, parts) in enumerate(bargains):
            self.assertEqual(desk.say(f"word {number}"), told[8])
            self.assertEqual(desk.say(f"quarrel {number}"), " ".join(parts) or "none")
            self.assertEqual(desk.say(f"cards {number}"), f"{self.card(told[6])} | {self.card(told[7])}")

    def card(self, card):
        writer, other, side, price, count, moment = card
        toward = {"sold": "to", "bought": "from"}[side]
        return f"{writer} {side} {count} at {price} {toward} {other} in {moment}"


class Refused(unittest.TestCase):
    def desk(self):
        """A desk with an offer, a bargain of each word and a deal."""
        desk = Desk(4, 120)
        for row in [
            "hold 0 s2x5w", "take 1 0 s2x5w 2c 2c", "take 1 0 s7x5w 2c 2c", "in 1 1", "in 0 1",
            "take 2 0 b2x5w 2c 2c", "in 2 2", "in 0 2", "take 3 0 s2x5w 2c 2c", "in 0 3", "in 3 3",
        ]:
            desk.say(row)
        return desk

    def refuse(self, kind, desk, row):
        before = everything(desk.hall)
        refused(self, kind, desk.say, row)
        self.assertEqual(everything(desk.hall), before)

    def test_anything(self):
        desk = self.desk()
        for thing in ANYTHING + [deep_thing(), ["now"], ("now",), list("now"), [["now"]], "ok", "done", "waits"]:
            self.refuse(NoRow, desk, thing)
        for row in ROWS:
            self.refuse(NoRow, desk, row.split(" "))
            self.refuse(NoRow, desk, tuple(row.split(" ")))

    def test_other_blanks(self):
        desk = self.desk()
        for row in ROWS:
            words = row.split(" ")
            others = [" " + row, row + " ", row + "\n", "\n" + row, row + "\t", row.upper(), row.title(), row + "x"]
            if len(words) > 1:
                others += ["  ".join(words), "\n".join(words), "\t".join(words), "".join(words), ",".join(words)]
            for other in others:
                self.refuse(NoRow, desk, other)

    def test_words_left_out_or_too_many(self):
        desk = self.desk()
        for row in ROWS:
            words = row.split(" ")
            for at in range(len(words)):
                self.refuse(NoRow, desk, " ".join(words[:at] + words[at + 1:]))
                for word in ("0", "1c", "s7x3c", "now", "buy", ""):
                    self.refuse(NoRow, desk, " ".join(words[:at] + [word] + words[at:]))
            self.refuse(NoRow, desk, row + " 0")

    def test_numbers_that_are_not_so_written(self):
        desk = self.desk()
        for row in ROWS:
            words = row.split(" ")
            for at, word in itertools.product(range(1, len(words)), [
                "", "-1", "+1", "00", "01", "007", "1.0", "1_0", "1,0", "x", "0x1", "1e3", "True", "None", "\u0663",
                "\u00b2", "1000000000", "1" * 10, "1" * 2000, "in", "out", "Buy", "s7x0c", "s7x3", "b7x3d", "0c", "3x",
                "10c", "c3", "s10x3c", "chin",
            ]):
                self.refuse(NoRow, desk, " ".join(words[:at] + [word] + words[at + 1:]))

    def test_a_word_of_another_kind(self):
        desk = self.desk()
        kinds = {"number": "0", "sign": "s7x3c", "showing": "2c", "palm": "buy"}
        for row in ROWS:
            words = row.split(" ")
            for at in range(1, len(words)):
                kind = "sign" if "x" in words[at] else "showing" if "c" in words[at] else "palm"
                kind = "number" if words[at].isdigit() else kind
                for other in kinds:
                    if other != kind:
                        self.refuse(NoRow, desk, " ".join(words[:at] + [kinds[other]] + words[at + 1:]))

    def test_numbers_of_nine_figures_reach_the_hall(self):
        desk = self.desk()
        for row, kind in [
            ("hold 999999999 s7x3c", NoMember), ("take 1 999999999 s2x5w 2c 2c", NoOffer), ("pass 999999999", BadNumber),
            ("in 0 999999999", NoBargain), ("agree 0 1 999999999 1", BadNumber), ("agree 0 1 1 999999999", BadNumber),
            ("settle 999999999", NoBargain), ("cards 999999999", NoBargain), ("word 100000000", NoBargain),
            ("quarrel 123456789", NoBargain),
        ]:
            self.refuse(kind, desk, row)
        self.assertEqual(desk.say("agree 0 1 100000000 1000000"), "waits")

    def test_as_the_hall_refuses(self):
        desk = self.desk()
        for row, kind in [
            ("hold 4 s7x3c", NoMember), ("lower 4 buy", NoMember), ("lower 0 buy", NoOffer), ("lower 1 sell", NoOffer),
            ("take 4 0 s2x5w 2c 2c", NoMember), ("take 1 1 s2x5w 2c 2c", NoOffer), ("take 0 0 s2x5w 2c 2c", Own),
            ("take 1 0 s3x5w 2c 2c", NotSeen), ("take 1 0 s2x5w 2c 3c", NotSeen), ("take 1 0 s2x5c 6c 6c", TooMany),
            ("in 4 0", NoMember), ("in 0 4", NoBargain), ("in 2 0", NotTheirs), ("in 0 1", Twice),
            ("settle 0", NoQuarrel), ("settle 3", NoQuarrel), ("settle 4", NoBargain),
            ("agree 4 1 1 1", NoMember), ("agree 0 4 1 1", NoBargain), ("agree 2 1 1 1", NotTheirs),
            ("agree 0 0 1 1", NoQuarrel), ("agree 0 2 1 1", NoWay), ("agree 0 1 1 0", BadNumber),
            ("agree 0 1 100000001 1", BadNumber), ("pass 0", BadNumber), ("pass 1001", BadNumber),
            ("cards 4", NoBargain), ("word 4", NoBargain), ("quarrel 4", NoBargain),
        ]:
            self.refuse(kind, desk, row)
        desk.say("close")
        for row in ["hold 0 s7x3c", "lower 0 sell", "take 1 0 s2x5w 2c 2c", "pass 1", "close"]:
            self.refuse(Closed, desk, row)

    def test_no_row_goes_ahead_of_what_the_hall_refuses(self):
        desk = self.desk()
        desk.say("close")
        for row in [
            "hold 4 s7x0c", "hold 04 s7x3c", "lower 4 in", "take 4 9 s2x5w 2c 0c", "take 4 9 s2x5w 0c 2c",
            "take 4 9 z 2c 2c", "take 4 -1 s2x5w 2c 2c", "pass 0 0", "pass -1", "close 0", "in 9 x", "agree 9 9 1 -1",
            "settle -1", "cards x", "word 01", "quarrel 1000000000",
        ]:
            self.refuse(NoRow, desk, row)

    def test_words_that_are_methods_or_so(self):
        desk = self.desk()
        for row in [
            "prints", "deals", "book", "deliveries", "is_open", "open", "hand_in 0 0", "consent 0 1 1 1", "go_on 1",
            "bargain 0", "stands_now", "lates", "help", "hold", "", "none", "lower 0 in", "lower 0 out", "pass", "in",
            "back 1", "rows", "stands 0", "board 0", "late 0", "offers 0", "called 120", "now 0", "undo", "say now",
        ]:
            self.refuse(NoRow, desk, row)


if __name__ == "__main__":
    unittest.main()
