"""Promise [29], and [2] where it speaks of books."""

import copy
import itertools
import random
import unittest

from helps import ANYTHING, deep_thing, put_otherwise
from palmhall.books import first_lie
from palmhall.errors import HallError
from palmhall.halls import Hall
from plainhall import PlainHall, drawn_deed

SELLS = ("out", 2, 3, "chin")
LOOK = ("out", 7, 3, "chin")

# A true book with each kind of row, for a hall of four with first price 120.
BOOK = [
    ("held", 0, SELLS, 0), ("held", 1, ("in", 5, 1, "brow"), 1), ("lowered", 1, "in"),
    ("took", 1, 0, LOOK, (1, "chin"), (1, "chin"), 0), ("took", 2, 0, SELLS, (1, "chin"), (6, "chin"), 1),
    ("passed", 40), ("in", 1, 0, "waits"), ("in", 0, 0, "quarrel"), ("settled", 0, ("left",)),
    ("consent", 0, 0, 119, 1, "waits"), ("in", 0, 1, "waits"), ("held", 3, ("in", 7, 1, "chin"), 2),
    ("took", 0, 2, ("out", 7, 1, "chin"), (1, "chin"), (1, "chin"), 2), ("in", 3, 2, "waits"),
    ("in", 0, 2, "quarrel"), ("settled", 2, ("void",)), ("closed", (0, 1)), ("in", 2, 1, "quarrel"),
    ("settled", 1, ("done", 122, 1)), ("consent", 1, 0, 119, 1, "done"),
]

CALLS = {
    "held": ("hold", 2), "lowered": ("lower", 2), "took": ("take", 5), "in": ("hand_in", 2), "settled": ("settle", 1),
    "consent": ("consent", 4), "passed": ("go_on", 1), "closed": ("close", 0),
}
LENGTHS = {"held": 4, "lowered": 3, "took": 7, "in": 4, "settled": 3, "consent": 6, "passed": 2, "closed": 2}
NUMBERS = {
    "held": [1, 3], "lowered": [1], "took": [1, 2, 6], "in": [1, 2], "settled": [1], "consent": [1, 2, 3, 4],
    "passed": [1], "closed": [],
}


def has_form(row):
    """By the words of [29]: whether a row has one of the forms."""
    if type(row) is not tuple or not row or type(row[0]) is not str or row[0] not in LENGTHS:
        return False
    if len(row) != LENGTHS[row[0]]:
        return False
    return all(type(row[at]) is int for at in NUMBERS[row[0]])


class OnwardHall(PlainHall):
    """A plain hall that is never told to take back, and so keeps nothing for it."""

    def deed(self):
        pass


def lie_by_words(many, first, book):
    """By the words of [29], by a plain hall."""
    hall = OnwardHall(many, first)
    for place, row in enumerate(book):
        if not has_form(row):
            return place
        name, parts = CALLS[row[0]]
        try:
            getattr(hall, name)(*row[1:1 + parts])
        except HallError:
            return place
        # Written out, 1 is not True.
        if repr(hall.rows[-1]) != repr(row):
            return place
    return None


def drawn_book(seed, members=4, first=120, length=60):
    """The book of a hall that did so many deeds."""
    chance = random.Random(seed)
    plain = PlainHall(members, first)
    for _ in range(length):
        name, *parts = drawn_deed(chance, plain)
        try:
            getattr(plain, name)(*parts)
        except HallError:
            pass
    return plain.book()


class TrueBooks(unittest.TestCase):
    def test_no_rows(self):
        for many, first in [(2, 0), (12, 10 ** 8), (4, 120)]:
            self.assertIsNone(first_lie(many, first, []))

    def test_each_kind_of_row(self):
        self.assertEqual({row[0] for row in BOOK}, set(LENGTHS))
        self.assertIsNone(lie_by_words(4, 120, BOOK))
        self.assertIsNone(first_lie(4, 120, BOOK))
        for length in range(len(BOOK)):
            self.assertIsNone(first_lie(4, 120, BOOK[:length]))

    def test_the_books_of_halls(self):
        for seed, (members, first) in itertools.product(range(3), [(2, 120), (4, 0), (12, 10 ** 8), (5, 119)]):
            book = drawn_book(seed, members, first)
            self.assertIsNone(first_lie(members, first, book))
            self.assertIsNone(first_lie(members, first, book))

    def test_the_book_of_a_hall_that_took_back(self):
        hall = Hall(4, 120)
        hall.hold(0, SELLS)
        hall.hold(1, SELLS)
        hall.back()
        hall.take(2, 0, SELLS, (1, "chin"), (1, "chin"))
        hall.hand_in(2, 0)
        hall.back()
        hall.close()
        self.assertIsNone(first_lie(4, 120, hall.book()))

    def test_400_rows(self):
        book = [("passed", 1 + at % 1000) for at in range(400)]
        self.assertIsNone(first_lie(2, 0, book))
        book[399] = ("passed", 0)
        self.assertEqual(first_lie(2, 0, book), 399)
        book = [("held", at % 12, ("in", at % 10, 1, "chin"), at) for at in range(400)]
        self.assertIsNone(first_lie(12, 0, book))
        book[0] = ("held", 0, ("in", 0, 1, "chin"), 1)
        self.assertEqual(first_lie(12, 0, book), 0)


class Lies(unittest.TestCase):
    def check(self, book, wanted, many=4, first=120):
        before = list(book)
        told = first_lie(many, first, book)
        self.assertEqual((told, type(told)), (wanted, type(wanted)))
        self.assertEqual(len(book), len(before))
        self.assertTrue(all(one is other for one, other in zip(book, before)))

    def test_as_written(self):
        self.check([("held", 0, SELLS, 1)], 0)
        self.check([("held", 4, SELLS, 0)], 0)
        self.check([("held", -1, SELLS, 0)], 0)
        self.check([("held", 0, SELLS, 0), ("held", 0, SELLS, 0)], 1)
        self.check([("held", 0, SELLS, 0), ("lowered", 0, "in")], 1)
        self.check([("held", 0, SELLS, 0), ("lowered", 0, "out"), ("lowered", 0, "out")], 2)
        self.check([("passed", 1), ("passed", 1001)], 1)
        self.check([("closed", ()), ("passed", 1)], 1)
        self.check([("closed", ()), ("closed", ())], 1)
        self.check([("closed", (0,))], 0)
        self.check([("closed", [])], 0)
        self.check([("settled", 0, ("left",))], 0)
        self.check([("in", 0, 0, "waits")], 0)
        self.check([("consent", 0, 0, 119, 1, "waits")], 0)

    def test_another_hall(self):
        self.check(BOOK, 11, many=3)
        self.check(BOOK, 4, many=2)
        self.check(BOOK, 8, first=123)
        self.check(BOOK, None, many=5)
        self.check([("held", 11, SELLS, 0)], None, many=12)
        self.check([("held", 11, SELLS, 0)], 0, many=11)

    def test_each_row_put_otherwise(self):
        for at, row in enumerate(BOOK):
            for other in put_otherwise(row, ANYTHING):
                book = BOOK[:at] + [other] + BOOK[at + 1:]
                self.check(book, lie_by_words(4, 120, book))

    def test_what_is_told_put_otherwise(self):
        told = [at for at, row in enumerate(BOOK) if row[0] in ("held", "took", "in", "settled", "consent", "closed")]
        for at in told:
            for thing in ANYTHING + [list(BOOK[at][-1:]), "Done", "open", "half", ("done", 122, 2), ("done", 121, 1)]:
                if repr(thing) != repr(BOOK[at][-1]):
                    self.check(BOOK[:at] + [BOOK[at][:-1] + (thing,)] + BOOK[at + 1:], at)

    def test_rows_of_anything(self):
        things = ANYTHING + [deep_thing(), (deep_thing(),), list(BOOK[0]), [BOOK[0]], (BOOK[0],), "held", ("held",)]
        for thing in things:
            self.check([thing], 0)
            self.check(BOOK + [thing], len(BOOK))
            self.check([BOOK[0], thing] + BOOK[1:], 1)

    def test_each_form_with_anything_in_each_place(self):
        deep = deep_thing()
        for at, row in enumerate(BOOK):
            for place in range(len(row)):
                self.check(BOOK[:at] + [row[:place] + (deep,) + row[place + 1:]], at)
                for thing in ([row[place]], (row[place],), None, -10 ** 19):
                    if thing != row[place]:
                        self.check(BOOK[:at] + [row[:place] + (thing,) + row[place + 1:]], at)

    def test_truths_are_no_numbers(self):
        for at, row in enumerate(BOOK):
            for place in NUMBERS[row[0]]:
                if row[place] in (0, 1):
                    self.check(BOOK[:at] + [row[:place] + (bool(row[place]),) + row[place + 1:]], at)
        self.check(BOOK[:16] + [("closed", (False, 1))], 16)
        self.check(BOOK[:16] + [("closed", (0, True))], 16)
        self.check(BOOK[:18] + [("settled", 1, ("done", 122, True))], 18)
        self.check([("held", 0, ("out", True, 3, "chin"), 0)], 0)
        self.check([("held", 0, ("out", 2, True, "chin"), 0)], 0)
        self.check([("passed", True)], 0)

    def test_lists_are_no_tuples(self):
        self.check(BOOK[:16] + [("closed", [0, 1])], 16)
        self.check(BOOK[:15] + [("settled", 2, ["void"])], 15)
        for at, row in enumerate(BOOK):
            self.check(BOOK[:at] + [list(row)] + BOOK[at + 1:], at)

    def test_rows_exchanged_left_out_or_told_twice(self):
        for at in range(len(BOOK)):
            for book in [
                BOOK[:at] + BOOK[at + 1:], BOOK[:at + 1] + BOOK[at:], BOOK[at:], BOOK[:at] + BOOK[at + 1:at + 2]
                + BOOK[at:at + 1] + BOOK[at + 2:],
            ]:
                self.check(book, lie_by_words(4, 120, book))

    def test_drawn_books_with_drawn_lies(self):
        chance = random.Random(71)
        for seed in range(10, 16):
            book = drawn_book(seed, length=80)
            for _ in range(30):
                at = chance.randrange(len(book))
                other = chance.choice(put_otherwise(book[at], [0, 1, 2, 3, "in", "out", "done", "waits", True]))
                lied = book[:at] + [other] + book[at + 1:]
                self.check(lied, lie_by_words(4, 120, lied))

    def test_nothing_handed_in_is_changed(self):
        book = BOOK[:16] + [["closed", [0, 1]], ("closed", [0, 1]), [[], [[]]]]
        before = copy.deepcopy(book)
        for at in range(16, 19):
            first_lie(4, 120, BOOK[:16] + [book[at]])
        first_lie(4, 120, book)
        self.assertEqual(book, before)

    def test_only_the_first_is_told(self):
        book = list(BOOK)
        for at in range(len(BOOK) - 1, -1, -1):
            book[at] = None
            self.check(book, at)

    def test_the_rows_behind_a_lie_are_not_looked_at(self):
        self.check([("passed", 0), ("passed", 1)], 0)
        self.check([None, deep_thing()], 0)


if __name__ == "__main__":
    unittest.main()
