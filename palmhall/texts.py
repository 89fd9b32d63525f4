"""Signs, showings and cards as texts, written and read."""

from palmhall.cards import is_card
from palmhall.errors import NoText
from palmhall.signs import is_showing, is_sign

FIGURES = "0123456789"
# The greatest number of a card, 10 ** 9, has ten figures.
CARD_FIGURES = 10

PALM_LETTERS = {"in": "b", "out": "s"}
PLACE_LETTERS = {"chin": "c", "brow": "w"}
LETTERS = {"b": "in", "s": "out", "c": "chin", "w": "brow"}


def showing_text(showing):
    """A showing as in 3c."""
    figure, place = showing
    return f"{figure}{PLACE_LETTERS[place]}"


def sign_text(sign):
    """A sign as in s7x3c."""
    return f"{PALM_LETTERS[sign[0]]}{sign[1]}x{showing_text(sign[2:])}"


def card_text(card):
    """A card as in 7 sold 5 at 120 to 3 in 40."""
    writer, other, side, price, count, moment = card
    toward = "from" if side == "bought" else "to"
    return f"{writer} {side} {count} at {price} {toward} {other} in {moment}"


def read_showing(text):
    """The showing that is so written; of anything else NoText."""
    if not isinstance(text, str) or len(text) != 2:
        raise NoText("no showing is so written")
    showing = (FIGURES.find(text[0]), LETTERS.get(text[1]))
    if not is_showing(showing):
        raise NoText("no showing is so written")
    return showing


def read_sign(text):
    """The sign that is so written; of anything else NoText."""
    if not isinstance(text, str) or len(text) != 5 or text[2] != "x":
        raise NoText("no sign is so written")
    sign = (LETTERS.get(text[0]), FIGURES.find(text[1])) + read_showing(text[3:])
    if not is_sign(sign):
        raise NoText("no sign is so written")
    return sign


def read_card(text):
    """The card that is so written; of anything else NoText."""
    words = text.split(" ") if isinstance(text, str) else []
    if len(words) != 9:
        raise NoText("no card is so written")
    writer, count, price, other, moment = [read_number(word, CARD_FIGURES) for word in words[::2]]
    card = (writer, other, words[1], price, count, moment)
    # The words between the numbers are right where the card would be written by these.
    if not is_card(card) or card_text(card) != text:
        raise NoText("no card is so written")
    return card


def read_number(text, most):
    """The number that is written by one to so many figures, without a nought ahead; else NoText."""
    if not 1 <= len(text) <= most or not all([letter in FIGURES for letter in text]):
        raise NoText("no number is so written")
    if text[0] == "0" and text != "0":
        raise NoText("no number has a nought ahead")
    return int(text)
