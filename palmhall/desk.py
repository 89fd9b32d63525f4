"""The desk: a hall that is told rows of words, and answers with texts."""

from palmhall.board import board, lates
from palmhall.errors import NoRow, NoText
from palmhall.halls import Hall
from palmhall.texts import card_text, read_number, read_showing, read_sign, sign_text

ROW_FIGURES = 9
PALM_WORDS = {"buy": "in", "sell": "out"}


class Desk:
    """A desk with a hall of so many members and a first price."""

    def __init__(self, many, first):
        self.hall = Hall(many, first)

    def say(self, row):
        """Does, or tells, what the row of words says; the answer is a text."""
        words = row.split(" ") if isinstance(row, str) else []
        try:
            return answer(self.hall, words)
        except NoText:
            # Every word is read ahead of what the hall is told, so nothing has been done yet.
            raise NoRow("a word of the row cannot be read") from None


def answer(hall, words):
    """The answer to a row that does something; all other rows only ask."""
    match words:
        case ["hold", member, sign]:
            return str(hall.hold(read_short(member), read_sign(sign)))
        case ["take", member, offer, look, shown, seen]:
            return str(hall.take(
                read_short(member), read_short(offer), read_sign(look), read_showing(shown), read_showing(seen),
            ))
        case ["lower", member, palm]:
            hall.lower(read_short(member), read_palm(palm))
            return "ok"
        case ["pass", ticks]:
            hall.go_on(read_short(ticks))
            return "ok"
        case ["back"]:
            hall.back()
            return "ok"
        case ["in", member, bargain]:
            return hall.hand_in(read_short(member), read_short(bargain))
        case ["agree", member, bargain, price, count]:
            return hall.consent(read_short(member), read_short(bargain), read_short(price), read_short(count))
        case ["settle", bargain]:
            return spaced(hall.settle(read_short(bargain)))
        case ["close"]:
            return spaced(hall.close())
        case _:
            return tell(hall, words)


def tell(hall, words):
    """The answer to a row that asks for something."""
    match words:
        case ["now"]:
            return str(hall.now())
        case ["called"]:
            return str(hall.called())
        case ["offers"]:
            return spaced([offer_text(offer) for offer in hall.offers()])
        case ["cards", bargain]:
            return " | ".join([card_text(card) for card in hall.bargain(read_short(bargain))[6:8]])
        case ["word", bargain]:
            return hall.bargain(read_short(bargain))[8]
        case ["quarrel", bargain]:
            return spaced(hall.quarrel(read_short(bargain)))
        case ["board"]:
            return board_text(board(hall.prints()))
        case ["late"]:
            return spaced(lates(hall.prints()))
        case ["stands"]:
            return spaced([f"{lots}:{coins}" for lots, coins in hall.stands_now()])
        case _:
            raise NoRow("there is no such row")


def spaced(parts):
    """The parts with a blank between, or none."""
    return " ".join([str(part) for part in parts]) or "none"


def offer_text(offer):
    """An offer's parts, the sign written."""
    number, member, sign, price, left = offer
    return f"{number}:{member}:{sign_text(sign)}:{price}:{left}"


def board_text(told):
    """The numbers of a board, or none without one."""
    if told is None:
        return "none"
    first, high, low, last, lots = told
    return spaced([*first, high, low, *last, lots])


def read_short(text):
    """A number that is written by at most nine figures."""
    return read_number(text, ROW_FIGURES)


def read_palm(text):
    """The palm of a member that buys, or sells."""
    if text not in PALM_WORDS:
        raise NoText("a member buys or sells")
    return PALM_WORDS[text]
