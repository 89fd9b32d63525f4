"""How two lists of cards that lie about fit together best."""

from palmhall.cards import quarrel_of

# What a card costs that is in no row.
ALONE = 2


def best_fit(ones, others):
    """A tuple (cost, rows): the least cost, and of several such the least rows of places."""
    costs = [[len(quarrel_of(one, other)) for other in others] for one in ones]
    return fit_from(0, tuple(range(len(others))), costs, {})


def fit_from(at, free, costs, known):
    """The best fit of the ones from this place on with those of the others that are free yet."""
    if at == len(costs):
        return ALONE * len(free), []
    # Many ways ahead leave the same places free, and what follows is the same for all of them.
    if (at, free) not in known:
        known[(at, free)] = min(fits_from(at, free, costs, known))
    return known[(at, free)]


def fits_from(at, free, costs, known):
    """The best fit for each choice at this place: alone, or in a row with one that is free."""
    cost, rows = fit_from(at + 1, free, costs, known)
    fits = [(ALONE + cost, rows)]
    for k, place in enumerate(free):
        cost, rows = fit_from(at + 1, free[:k] + free[k + 1:], costs, known)
        fits.append((costs[at][place] + cost, [(at, place)] + rows))
    return fits
