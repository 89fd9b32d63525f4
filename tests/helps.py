"""What several tests need, written from the document and not from the program."""

import itertools

from palmhall.errors import HallError, NoBargain

LOOKS = [("in", "out"), ("chin", "brow"), (1, 6), (2, 7), (3, 8), (4, 9)]

SHOWINGS = list(itertools.product(range(1, 10), ("chin", "brow")))
SIGNS = list(itertools.product(("in", "out"), range(10), range(1, 10), ("chin", "brow")))


def parts_look_alike(one, other):
    return (one, other) in LOOKS or (other, one) in LOOKS


def things_look_alike(one, other):
    """By the words of [5]: unlike in just one part, and alike to the eye in this."""
    unlike = [(a, b) for a, b in zip(one, other) if a != b]
    return len(unlike) == 1 and parts_look_alike(*unlike[0])


SIGN_LOOKS = {
    sign: [other for other in SIGNS if things_look_alike(sign, other)] for sign in SIGNS
}


def first_unlike(one, other):
    """The place of the first part in which two things are unlike."""
    return [a == b for a, b in zip(one, other)].index(False)


def drawn_signs(chance, many):
    """So many unlike signs, in any order."""
    return chance.sample(SIGNS, many)


def grown_signs(chance, many):
    """So many unlike signs, most of them look-alikes of ones ahead."""
    signs = [chance.choice(SIGNS)]
    while len(signs) < many:
        near = [other for sign in signs for other in SIGN_LOOKS[sign] if other not in signs]
        if near and chance.random() < 0.95:
            signs.append(chance.choice(near))
        else:
            signs.append(chance.choice([sign for sign in SIGNS if sign not in signs]))
    chance.shuffle(signs)
    return signs


def put_otherwise(thing, parts):
    """Every thing that comes of this tuple by one change, each of these parts in each place among them."""
    told = [list(thing)]
    for at in range(len(thing)):
        told += [thing[:at] + (part,) + thing[at + 1:] for part in parts]
        told.append(thing[:at] + thing[at + 1:])
        told.append(thing[:at + 1] + thing[at:])
        told.append(thing[:at] + ([thing[at]],) + thing[at + 1:])
        told.append(thing[:at] + ((thing[at],),) + thing[at + 1:])
        if thing[at] in (0, 1):
            told.append(thing[:at] + (bool(thing[at]),) + thing[at + 1:])
        if at + 1 < len(thing):
            told.append(thing[:at] + (thing[at + 1], thing[at]) + thing[at + 2:])
    return told


def is_number(thing, least, most):
    """A whole number within bounds: of just this kind, so no truth."""
    return type(thing) is int and thing in range(least, most + 1)


def card_by_words(thing):
    """By the words of [9]: whether this is a card."""
    return type(thing) is tuple and len(thing) == 6 and all([
        is_number(thing[0], 0, 11),
        is_number(thing[1], 0, 11),
        type(thing[2]) is str and thing[2] in ["bought", "sold"],
        is_number(thing[3], 0, 1_000_000_000),
        is_number(thing[4], 1, 1_000_000),
        is_number(thing[5], 0, 1_000_000_000),
    ]) and thing[0] != thing[1]


def together_by_words(one, other):
    """By the words of [10]: whether two cards belong together."""
    return one[0] == other[1] and one[1] == other[0] and one[5] == other[5]


def quarrel_by_words(one, other):
    """By the words of [10]: in which parts two cards that belong together quarrel."""
    return tuple(
        word for word, quarrels in [
            ("side", one[2] == other[2]), ("price", one[3] != other[3]), ("count", one[4] != other[4]),
        ] if quarrels
    )


def drawn_card(chance, members=12, prices=3, counts=2, moments=3):
    """A card; the fewer its parts can be, the more often two of them agree or nearly do."""
    writer, other = chance.sample(range(members), 2)
    side = chance.choice(["bought", "sold"])
    return (
        writer, other, side, 118 + chance.randrange(prices), 1 + chance.randrange(counts), chance.randrange(moments),
    )


def drawn_print(chance, moments=5, prices=4, counts=3):
    """A print (moment, price, count)."""
    return chance.randrange(moments), 118 + chance.randrange(prices), 1 + chance.randrange(counts)


def shuffled(chance, things):
    """A new list of the same things in another order."""
    return chance.sample(things, len(things))


def drawn_deal(chance, members=12, prices=4, counts=5, moments=4):
    """A deal (seller, buyer, price, count, moment)."""
    seller, buyer = chance.sample(range(members), 2)
    return seller, buyer, 118 + chance.randrange(prices), 1 + chance.randrange(counts), chance.randrange(moments)


def way_by_words(one, other, called):
    """By the words of [19]: the one way of two cards that belong together."""
    if one[2] == other[2]:
        return ("void",)
    prices = {one[2]: one[3], other[2]: other[3]}
    count = one[4] if one[4] < other[4] else other[4]
    if prices["sold"] == prices["bought"]:
        return ("done", prices["sold"], count)
    if prices["sold"] < prices["bought"] and prices["sold"] <= called and called <= prices["bought"]:
        return ("done", called, count)
    return ("left",)


# Numbers, texts, truths, None, lists and tuples, as [2] tells what "of anything" is.
ANYTHING = [
    0, 1, 2, 3, 5, 9, 10, 11, 12, -1, -2, 100, 1000, 1001, 10 ** 6, 10 ** 8, 10 ** 9, 10 ** 19, -10 ** 19,
    "", " ", "0", "1", "in", "out", "chin", "brow", "bought", "sold", "waits", "done", "void", "left", "quarrel",
    "held", "closed", "s7x3c", "3c", "ok", "none", "\n", "~", "x" * 2000, True, False, None,
    [], (), [[]], [()], ((),), ([],), (None,), [None], [0], (0,), (0, 1), [0, 1], (1, "chin"), [1, "chin"],
    (True, "chin"), ("in", 1, 1, "chin"), ["in", 1, 1, "chin"], ("in", True, 1, "chin"), ("in", 1, 10, "chin"),
    ("in", 1, 0, "chin"), ("in", -1, 1, "chin"), ("in", 1, 1, "nose"), ("up", 1, 1, "chin"), ("in", 1, 1),
    ("in", 1, 1, "chin", 0), ("void",), ("left",), ("done", 1, 1), list(range(400)), tuple(range(400)),
]


def deep_thing():
    """A tuple in a tuple, and so on, deeper than calls can go."""
    deep = ()
    for _ in range(5000):
        deep = (deep,)
    return deep


def refused(case, kind, call, *parts):
    """Checks that the call is refused with just this kind."""
    with case.assertRaises(HallError) as caught:
        call(*parts)
    case.assertIs(type(caught.exception), kind)


def everything(hall):
    """All that a hall tells."""
    bargains = []
    while True:
        try:
            bargains.append((hall.bargain(len(bargains)), hall.quarrel(len(bargains))))
        except NoBargain:
            break
    return [
        hall.now(), hall.called(), hall.is_open(), hall.offers(), bargains, hall.prints(), hall.deals(),
        hall.stands_now(), hall.deliveries(), hall.book(),
    ]
