"""What several tests need, written from the document and not from the program."""

import itertools

LOOKS = [("in", "out"), ("chin", "brow"), (1, 6), (2, 7), (3, 8), (4, 9)]

SHOWINGS = list(itertools.product(range(1, 10), ("chin", "brow")))
SIGNS = list(itertools.product(("in", "out"), range(10), range(1, 10), ("chin", "brow")))


def parts_look_alike(one, other):
    return (one, other) in LOOKS or (other, one) in LOOKS


def things_look_alike(one, other):
    """By the words of [5]: unlike in just one part, and alike to the eye in this."""
    unlike = [(a, b) for a, b in zip(one, other) if a != b]
    return len(unlike) == 1 and parts_look_alike(*unlike[0])


SIGN_LOOKS = {
    sign: [other for other in SIGNS if things_look_alike(sign, other)] for sign in SIGNS
}


def first_unlike(one, other):
    """The place of the first part in which two things are unlike."""
    return [a == b for a, b in zip(one, other)].index(False)


def drawn_signs(chance, many):
    """So many unlike signs, in any order."""
    return chance.sample(SIGNS, many)


def grown_signs(chance, many):
    """So many unlike signs, most of them look-alikes of ones ahead."""
    signs = [chance.choice(SIGNS)]
    while len(signs) < many:
        near = [other for sign in signs for other in SIGN_LOOKS[sign] if other not in signs]
        if near and chance.random() < 0.95:
            signs.append(chance.choice(near))
        else:
            signs.append(chance.choice([sign for sign in SIGNS if sign not in signs]))
    chance.shuffle(signs)
    return signs
