"""Who brings whom what, in the fewest ways."""

from palmhall.errors import Unlike


def fewest_deliveries(numbers):
    """A tuple (many, rows): rows (giver, taker, count) by which each member gives its number of lots."""
    if sum(numbers) != 0:
        raise Unlike("what is given is not what is taken")
    rows = []
    # A part of some members takes one row less than it has members, so the most parts take the fewest rows.
    for part in most_parts(numbers):
        rows.extend(rows_within(part, numbers))
    return len(rows), sorted(rows)


def most_parts(numbers):
    """The members with lots to give or take, in as many parts as can be, the lots of each part coming to 0."""
    members = [member for member, number in enumerate(numbers) if number != 0]
    bits = [1 << at for at in range(len(members))]
    sums = sums_of_sets([numbers[member] for member in members])
    noughts = noughts_on_the_way(sums, bits)
    parts = []
    rest = len(sums) - 1
    while rest > 0:
        if sums[rest] == 0:
            parts.append([])
        most, at = max([(noughts[rest ^ bit], at) for at, bit in enumerate(bits) if rest & bit])
        parts[-1].append(members[at])
        rest ^= bits[at]
    return parts


def sums_of_sets(numbers):
    """The sum of each set of these numbers; the bits of the place tell which of them are in the set."""
    sums = [0]
    for number in numbers:
        sums = sums + [already + number for already in sums]
    return sums


def noughts_on_the_way(sums, bits):
    """For each set: how often its sum can be 0, at most, while its members come one by one."""
    noughts = [0]
    for chosen in range(1, len(sums)):
        most = max([noughts[chosen ^ bit] for bit in bits if chosen & bit])
        noughts.append(most + 1 if sums[chosen] == 0 else most)
    return noughts


def rows_within(part, numbers):
    """Rows among the members of a part; each row is the last of a member, the last one of two."""
    left = {member: abs(numbers[member]) for member in part}
    givers = [member for member in part if numbers[member] > 0]
    takers = [member for member in part if numbers[member] < 0]
    rows = []
    while givers:
        giver, taker = givers[-1], takers[-1]
        count = min(left[giver], left[taker])
        rows.append((giver, taker, count))
        left[giver] -= count
        left[taker] -= count
        if left[giver] == 0:
            givers.pop()
        if left[taker] == 0:
            takers.pop()
    return rows
