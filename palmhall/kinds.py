"""What kind a thing is that may be anything."""


def is_whole(thing, least, most):
    """Whether it is a whole number within these bounds: True and False are none."""
    return isinstance(thing, int) and not isinstance(thing, bool) and least <= thing <= most


def is_word(thing, words):
    """Whether it is one of these words."""
    return isinstance(thing, str) and thing in words
