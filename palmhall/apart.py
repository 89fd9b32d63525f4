"""Signs that can be shown beside one another without being mistaken."""

from palmhall.signs import alikes


def most_apart(signs):
    """A tuple (kept, pairs): the most signs that are apart, and look-alikes that show there are no more."""
    among = {sign: True for sign in signs}
    near = {sign: [other for other in alikes(sign) if other in among] for sign in signs}
    evens = [sign for sign in signs if is_even(sign)]
    partners = pair_up(evens, near)
    reached = reach(evens, near, partners)
    # Koenig: of each pair just one sign is kept, and of the signs in no pair all are.
    kept = [sign for sign in signs if is_even(sign) == (sign in reached)]
    pairs = [(sign, partners[sign]) for sign in evens if sign in partners]
    return kept, pairs


def is_even(sign):
    """Splits the signs in two halves, so that look-alikes never stand in the same one."""
    palm, price, figure, place = sign
    flips = [palm == "out", price > 5, figure > 5, place == "brow"]
    return flips.count(True) % 2 == 0


def pair_up(evens, near):
    """The most pairs of look-alikes, as a dict that leads from each sign of a pair to the other."""
    partners = {}
    for sign in evens:
        find_partner(sign, near, partners, {})
    return partners


def find_partner(sign, near, partners, tried):
    """Pairs an even sign, where need be by giving others new partners; whether it could."""
    # At most 16 signs lead to one another by look-alikes, so this never goes deep.
    for other in near[sign]:
        if other in tried:
            continue
        tried[other] = True
        if other not in partners or find_partner(partners[other], near, partners, tried):
            partners[sign] = other
            partners[other] = sign
            return True
    return False


def reach(evens, near, partners):
    """The signs to which a way leads from an even one in no pair, going back from odd ones by pairs only."""
    waiting = [sign for sign in evens if sign not in partners]
    reached = {sign: True for sign in waiting}
    while waiting:
        sign = waiting.pop()
        for other in near[sign]:
            if other not in reached:
                # An odd sign that is reached has a partner, else there would be one more pair.
                back = partners[other]
                reached[other] = True
                reached[back] = True
                waiting.append(back)
    return reached
