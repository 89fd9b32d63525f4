"""Books of halls, and the first lie in one."""

from palmhall.errors import HallError
from palmhall.halls import Hall
from palmhall.kinds import is_whole, is_word


def first_lie(many, first, book):
    """The place of the first row that a hall of these would not have written, or None."""
    hall = Hall(many, first)
    for place, row in enumerate(book):
        if not is_true(hall, row):
            return place
    return None


def is_true(hall, row):
    """Does what the row tells, and says whether the hall writes the very same row of it."""
    try:
        known = do_row(hall, row)
    except HallError:
        return False
    return known and is_same(row, hall.book()[-1])


def do_row(hall, row):
    """Does what the row tells; whether there is such a deed."""
    # The hall refuses parts of other kinds, so here only the words and the lengths are told apart.
    match row:
        case ("held", member, sign, offer):
            hall.hold(member, sign)
        case ("lowered", member, palm):
            hall.lower(member, palm)
        case ("took", member, offer, look, shown, seen, bargain):
            hall.take(member, offer, look, shown, seen)
        case ("in", member, bargain, word):
            hall.hand_in(member, bargain)
        case ("settled", bargain, told):
            hall.settle(bargain)
        case ("consent", member, bargain, price, count, word):
            hall.consent(member, bargain, price, count)
        case ("passed", ticks):
            hall.go_on(ticks)
        case ("closed", numbers):
            hall.close()
        case _:
            return False
    return True


def is_same(thing, wanted):
    """Whether it is the same as what a hall wrote, of the same kinds: to Python 1 is True also."""
    if isinstance(wanted, tuple):
        return (
            isinstance(thing, tuple)
            and len(thing) == len(wanted)
            and all([is_same(part, other) for part, other in zip(thing, wanted)])
        )
    if isinstance(wanted, str):
        return is_word(thing, (wanted,))
    return is_whole(thing, wanted, wanted)
