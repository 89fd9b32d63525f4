"""The one way to settle a quarrel that both cards allow."""

from palmhall.cards import quarrel_of


def one_way(one, other, called):
    """("void",), ("done", price, count) or ("left",), by two cards and the called price."""
    if "side" in quarrel_of(one, other):
        return ("void",)
    price = price_between(one, other, called)
    if price is None:
        return ("left",)
    return "done", price, min(one[4], other[4])


def price_between(one, other, called):
    """The one price that both cards allow, or None; one of the two sold and the other one bought."""
    sold, bought = (one[3], other[3]) if one[2] == "sold" else (other[3], one[3])
    if sold == bought:
        return sold
    if sold <= called <= bought:
        return called
    return None
