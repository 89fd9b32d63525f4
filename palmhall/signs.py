"""Signs and showings: what they are, how many lots they tell, and which ones look alike."""

from palmhall.kinds import is_whole, is_word

PALMS = ("in", "out")
PLACES = ("chin", "brow")

# One table serves every part of a sign: no palm is a place, and price and figure are shown by the
# same fingers. The fist (0) and the hand (5) look like nothing else, so they are not in it.
ALIKE_PARTS = {
    "in": "out", "out": "in",
    "chin": "brow", "brow": "chin",
    1: 6, 2: 7, 3: 8, 4: 9,
    6: 1, 7: 2, 8: 3, 9: 4,
}


def is_sign(thing):
    """Of anything: whether it is a tuple (palm, price, figure, place)."""
    if not isinstance(thing, tuple) or len(thing) != 4:
        return False
    palm, price, figure, place = thing
    return is_word(palm, PALMS) and is_whole(price, 0, 9) and is_showing((figure, place))


def is_showing(thing):
    """Of anything: whether it is a tuple (figure, place)."""
    if not isinstance(thing, tuple) or len(thing) != 2:
        return False
    figure, place = thing
    return is_whole(figure, 1, 9) and is_word(place, PLACES)


def lots_of(thing):
    """How many lots a sign, or a showing, tells."""
    # A sign ends in the two parts that make a showing.
    figure, place = thing[-2:]
    if place == "brow":
        return 10 * figure
    return figure


def alikes(thing):
    """The look-alikes of a sign, or of a showing, by the order of the part that is unlike."""
    return [
        thing[:at] + (ALIKE_PARTS[part],) + thing[at + 1:]
        for at, part in enumerate(thing)
        if part in ALIKE_PARTS
    ]


def look_alike(one, other):
    """Whether two signs, or two showings, look alike; none looks like itself."""
    return other in alikes(one)


def mistakes(one, other):
    """How few look-alikes lead from a sign to another one, or None where none do."""
    # Each part has at most one look-alike, so a part that is unlike takes just one step, or
    # cannot be reached at all.
    unlike = [(part, wanted) for part, wanted in zip(one, other) if part != wanted]
    if all([ALIKE_PARTS.get(part) == wanted for part, wanted in unlike]):
        return len(unlike)
    return None


def price_meant(called, figure):
    """The price from 0 on with this last figure that is nearest to the called one."""
    up = (figure - called) % 10
    higher = called + up
    lower = higher - 10
    # The lower one is 10 - up away, so at 5 both are as near and the higher goes first.
    if up <= 5 or lower < 0:
        return higher
    return lower
