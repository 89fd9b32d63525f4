"""Who stands how by the deals, tuples (seller, buyer, price, count, moment): stands, pieces and gains."""


def stands(many, deals):
    """A tuple (lots, coins) for each of so many members: lots bought less sold, coins got less paid."""
    lots = {}
    coins = {}
    for seller, buyer, price, count, moment in deals:
        lots[seller] = lots.get(seller, 0) - count
        lots[buyer] = lots.get(buyer, 0) + count
        coins[seller] = coins.get(seller, 0) + price * count
        coins[buyer] = coins.get(buyer, 0) - price * count
    return [(lots.get(member, 0), coins.get(member, 0)) for member in range(many)]


def pieces(deals, member):
    """A tuple (closed, open): the member's lots that came and went again, and those that did not yet."""
    closed = []
    had = []
    owed = []
    for moment, price, other, count, sells in steps_of(deals, member):
        if sells:
            close_elder(had, owed, closed, (price, count, "had"))
        else:
            close_elder(owed, had, closed, (price, count, "owed"))
    return closed, open_piece(had, owed)


def steps_of(deals, member):
    """The member's deals as (moment, price, other, count, whether it sells), in the order in which they come."""
    steps = []
    for seller, buyer, price, count, moment in deals:
        if buyer == member:
            steps.append((moment, price, seller, count, False))
        elif seller == member:
            steps.append((moment, price, buyer, count, True))
    return sorted(steps)


def close_elder(elder, younger, closed, step):
    """Closes elder lots, the oldest first; what is left of the step when there are none goes to the younger."""
    price, count, word = step
    while count > 0 and elder:
        first, many = elder[0]
        part = min(many, count)
        closed.append((first, price, part, word))
        count -= part
        if part == many:
            del elder[0]
        else:
            elder[0] = (first, many - part)
    if count > 0:
        younger.append((price, count))


def open_piece(had, owed):
    """The word and the rows of what is open; a member never has lots and owes some at once."""
    if had:
        return "has", had
    if owed:
        return "owes", owed
    return "nothing", []


def gain(deals, member, price):
    """What the closed lots brought more than they cost, and what the open ones would at this price."""
    closed, (word, rows) = pieces(deals, member)
    total = 0
    for first, last, count, kind in closed:
        total += count * (last - first if kind == "had" else first - last)
    for first, count in rows:
        total += count * (price - first if word == "has" else first - price)
    return total
