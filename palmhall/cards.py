"""Cards: what they are, in which parts two of them quarrel, and which ones agree."""

from palmhall.errors import Unlike
from palmhall.kinds import is_whole, is_word

SIDES = ("bought", "sold")
LAST_MEMBER = 11
MOST_PRICE = 10 ** 9
MOST_COUNT = 10 ** 6
LAST_MOMENT = 10 ** 9


def is_card(thing):
    """Of anything: whether it is a tuple (writer, other, side, price, count, moment)."""
    if not isinstance(thing, tuple) or len(thing) != 6:
        return False
    writer, other, side, price, count, moment = thing
    return (
        are_two_members(writer, other)
        and is_word(side, SIDES)
        and is_whole(price, 0, MOST_PRICE)
        and is_whole(count, 1, MOST_COUNT)
        and is_whole(moment, 0, LAST_MOMENT)
    )


def are_two_members(one, other):
    """Of anything: whether these are the numbers of two unlike members."""
    return is_whole(one, 0, LAST_MEMBER) and is_whole(other, 0, LAST_MEMBER) and one != other


def belong_together(one, other):
    """Whether each card's writer is the other of the other one, and the moments are alike."""
    return one[:2] == (other[1], other[0]) and one[5] == other[5]


def quarrel_of(one, other):
    """The parts in which two cards that belong together quarrel, as a tuple of words."""
    if not belong_together(one, other):
        raise Unlike("these cards do not belong together")
    words = []
    # A bargain has a seller and a buyer, so of the sides it is like ones that quarrel.
    if one[2] == other[2]:
        words.append("side")
    if one[3] != other[3]:
        words.append("price")
    if one[4] != other[4]:
        words.append("count")
    return tuple(words)


def twin_of(card):
    """The one card that agrees with this one."""
    writer, other, side, price, count, moment = card
    turned = "sold" if side == "bought" else "bought"
    return other, writer, turned, price, count, moment


def put_together(cards):
    """A tuple (pairs, left): the cards that agree as (sold card, bought card), and all others."""
    waiting = {}
    pairs = []
    # A card agrees with its twin only, so to pair each with any twin that waits makes the most pairs.
    for card in cards:
        twin = twin_of(card)
        if waiting.get(twin, 0) > 0:
            waiting[twin] -= 1
            pairs.append((card, twin) if card[2] == "sold" else (twin, card))
        else:
            waiting[card] = waiting.get(card, 0) + 1
    left = [card for card, many in waiting.items() for again in range(many)]
    return sorted(pairs), sorted(left)
