"""The board: what is told of the prints, tuples (moment, price, count), that were put up."""


def lates(prints):
    """The places of the prints ahead of which one of a later moment stands."""
    late = []
    # No moment is below 0, so the first print is never late.
    latest = 0
    for place, (moment, price, count) in enumerate(prints):
        if moment < latest:
            late.append(place)
        else:
            latest = moment
    return late


def board(prints):
    """A tuple (first, high, low, last, lots), or None without any print."""
    rows = rows_of(prints)
    if not rows:
        return None
    first = rows[0][1:3]
    last = rows[-1][1:3]
    low = min([least for moment, least, greatest, lots in rows])
    high = max([greatest for moment, least, greatest, lots in rows])
    return first, high, low, last, sum([lots for moment, least, greatest, lots in rows])


def rows_of(prints):
    """A tuple (moment, least, greatest, lots) for each moment that has a print, rising."""
    rows = {}
    for moment, price, count in prints:
        least, greatest, lots = rows.get(moment, (price, price, 0))
        rows[moment] = (min(least, price), max(greatest, price), lots + count)
    return [(moment,) + rows[moment] for moment in sorted(rows)]


def called_price(prints, first):
    """The price of most lots in the latest moment, of several the highest; first without a print."""
    if not prints:
        return first
    latest = max([moment for moment, price, count in prints])
    lots = {}
    for moment, price, count in prints:
        if moment == latest:
            lots[price] = lots.get(price, 0) + count
    return max([(many, price) for price, many in lots.items()])[1]
