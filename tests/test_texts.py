"""Promise [30], and [2] where it speaks of texts."""

import itertools
import random
import re
import unittest

from helps import ANYTHING, SHOWINGS, SIGNS, card_by_words, deep_thing, drawn_card, refused
from palmhall.errors import NoText
from palmhall.texts import card_text, read_card, read_showing, read_sign, showing_text, sign_text

CARDS = {
    "3 bought 5 at 120 from 7 in 40": (3, 7, "bought", 120, 5, 40),
    "7 sold 5 at 120 to 3 in 40": (7, 3, "sold", 120, 5, 40),
    "0 sold 1 at 0 to 1 in 0": (0, 1, "sold", 0, 1, 0),
    "11 bought 1000000 at 1000000000 from 10 in 1000000000": (11, 10, "bought", 10 ** 9, 10 ** 6, 10 ** 9),
    "10 sold 10 at 100 to 0 in 1000": (10, 0, "sold", 100, 10, 1000),
}

SIGNS_WRITTEN = {
    "s7x3c": ("out", 7, 3, "chin"),
    "b0x1w": ("in", 0, 1, "brow"),
    "s9x9w": ("out", 9, 9, "brow"),
    "b5x5c": ("in", 5, 5, "chin"),
}

# Letters that Python takes for figures or for blanks among them.
LETTERS = ["", " ", "\n", "\t", "0", "1", "9", "-", "+", "_", ".", "x", "X", "b", "c", "w", "s", "~", "B", "\u0663", "\u00b2"]

CARD = re.compile(
    "(0|[1-9][0-9]*) (bought|sold) ([1-9][0-9]*) at (0|[1-9][0-9]*) (from|to) (0|[1-9][0-9]*) in (0|[1-9][0-9]*)"
)


def near_texts(text):
    """Every text that comes of this one by one letter put in, put otherwise or left out."""
    for at in range(len(text) + 1):
        for letter in LETTERS:
            yield text[:at] + letter + text[at:]
            yield text[:at] + letter + text[at + 1:]
    yield text.upper()
    yield text[::-1]
    yield text + text


def card_of(text):
    """The card that is so written, by a pattern; None of anything else."""
    found = CARD.fullmatch(text)
    if found is None:
        return None
    writer, side, count, price, toward, other, moment = found.groups()
    card = (int(writer), int(other), side, int(price), int(count), int(moment))
    if not card_by_words(card) or toward != {"bought": "from", "sold": "to"}[side]:
        return None
    return card


class Written(unittest.TestCase):
    def test_signs(self):
        for text, sign in SIGNS_WRITTEN.items():
            self.assertEqual(sign_text(sign), text)

    def test_showings(self):
        self.assertEqual(showing_text((3, "chin")), "3c")
        self.assertEqual(showing_text((9, "brow")), "9w")
        self.assertEqual(showing_text((1, "brow")), "1w")

    def test_cards(self):
        for text, card in CARDS.items():
            self.assertEqual(card_text(card), text)


class Read(unittest.TestCase):
    def same(self, told, wanted):
        self.assertEqual(told, wanted)
        self.assertIs(type(told), tuple)
        self.assertEqual([type(part) for part in told], [type(part) for part in wanted])

    def test_all_signs(self):
        texts = [sign_text(sign) for sign in SIGNS]
        self.assertEqual(len(set(texts)), len(SIGNS))
        for text, sign in zip(texts, SIGNS):
            self.assertRegex(text, r"\A[bs][0-9]x[1-9][cw]\Z")
            self.same(read_sign(text), sign)

    def test_all_showings(self):
        texts = [showing_text(showing) for showing in SHOWINGS]
        self.assertEqual(len(set(texts)), len(SHOWINGS))
        for text, showing in zip(texts, SHOWINGS):
            self.assertRegex(text, r"\A[1-9][cw]\Z")
            self.same(read_showing(text), showing)

    def test_cards(self):
        for text, card in CARDS.items():
            self.same(read_card(text), card)
        chance = random.Random(51)
        for _ in range(500):
            card = drawn_card(chance, prices=10 ** chance.randint(0, 8), counts=10 ** 6, moments=10 ** 9)
            self.same(read_card(card_text(card)), card)


class Refused(unittest.TestCase):
    def test_all_texts_near_a_sign(self):
        allowed = {sign_text(sign): sign for sign in SIGNS}
        for text in SIGNS_WRITTEN:
            for near in near_texts(text):
                if near in allowed:
                    self.assertEqual(read_sign(near), allowed[near])
                else:
                    refused(self, NoText, read_sign, near)

    def test_all_texts_of_two_letters(self):
        allowed = {showing_text(showing): showing for showing in SHOWINGS}
        for letters in itertools.product(LETTERS + ["2", "3", "4"], repeat=2):
            text = "".join(letters)
            if text in allowed:
                self.assertEqual(read_showing(text), allowed[text])
            else:
                refused(self, NoText, read_showing, text)
        for near in near_texts("3c"):
            if near not in allowed:
                refused(self, NoText, read_showing, near)

    def test_all_texts_near_a_card(self):
        for text in CARDS:
            for near in near_texts(text):
                wanted = card_of(near)
                if wanted is None:
                    refused(self, NoText, read_card, near)
                else:
                    self.assertEqual(read_card(near), wanted)

    def test_cards_with_a_word_put_otherwise(self):
        words = [
            "0", "1", "7", "12", "-1", "+1", "00", "01", "1000000", "1000001", "1000000000", "1000000001", "1_0",
            "1.0", "9" * 2000, "", "at", "in", "from", "to", "bought", "sold", "Sold", "True", "None", "\u0663",
        ]
        for text in CARDS:
            parts = text.split(" ")
            for at, word in itertools.product(range(9), words):
                for near in [parts[:at] + [word] + parts[at + 1:], parts[:at] + [word] + parts[at:]]:
                    near = " ".join(near)
                    if card_of(near) is None:
                        refused(self, NoText, read_card, near)
                    else:
                        self.assertEqual(read_card(near), card_of(near))
                refused(self, NoText, read_card, " ".join(parts[:at] + parts[at + 1:]))

    def test_bounds(self):
        for text in [
            "12 sold 5 at 120 to 3 in 40", "7 sold 5 at 120 to 12 in 40", "7 sold 5 at 120 to 7 in 40",
            "7 sold 0 at 120 to 3 in 40", "7 sold 1000001 at 120 to 3 in 40", "7 sold 5 at 1000000001 to 3 in 40",
            "7 sold 5 at 120 to 3 in 1000000001", "7 sold 5 at 120 from 3 in 40", "3 bought 5 at 120 to 7 in 40",
            "07 sold 5 at 120 to 3 in 40", "7 sold 05 at 120 to 3 in 40", "7 sold 5 at 0120 to 3 in 40",
            "7 sold 5 at 120 to 03 in 40", "7 sold 5 at 120 to 3 in 040", "7 sold 5 at 00 to 3 in 40",
            "7 sold 5 at 120 to 3 in 40 ", " 7 sold 5 at 120 to 3 in 40", "7  sold 5 at 120 to 3 in 40",
            "7 sold 5 at 120 to 3 in 40\n", "7 sold 5 at 120 to 3 in", "7 sold 5 at 120 to 3", "7 sold 5 120 3 40",
            "7\nsold 5 at 120 to 3 in 40", "7 sold 5 in 120 to 3 at 40",
        ]:
            refused(self, NoText, read_card, text)

    def test_anything(self):
        things = ANYTHING + [deep_thing(), ["s7x3c"], ("s7x3c",), list("s7x3c"), tuple("s7x3c"), list("3c"), ("3", "c")]
        things += [list(CARDS), "7 sold 5 at 120 to 3 in 40".split(" "), (7, 3, "sold", 120, 5, 40), (3, "chin")]
        for thing in things:
            if thing != "s7x3c":
                refused(self, NoText, read_sign, thing)
            if thing != "3c":
                refused(self, NoText, read_showing, thing)
            refused(self, NoText, read_card, thing)

    def test_one_is_not_read_for_another(self):
        refused(self, NoText, read_sign, "3c")
        refused(self, NoText, read_showing, "s7x3c")
        refused(self, NoText, read_sign, "7 sold 5 at 120 to 3 in 40")
        refused(self, NoText, read_showing, "7 sold 5 at 120 to 3 in 40")
        refused(self, NoText, read_card, "s7x3c")

    def test_letters_of_the_other_part(self):
        for text in ["c7x3c", "w7x3c", "s7x3b", "s7x3s", "b7x3s"]:
            refused(self, NoText, read_sign, text)
        for text in ["3b", "3s"]:
            refused(self, NoText, read_showing, text)


if __name__ == "__main__":
    unittest.main()
