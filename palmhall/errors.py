"""The refusals of the hall."""


class HallError(ValueError):
    """Any refusal."""


class Unlike(HallError):
    """Things that do not belong together, or numbers that do not add up."""


class NoSign(HallError):
    """What should be a sign, or a showing, is none."""


class NotSeen(HallError):
    """A sign or showing cannot be taken for one that does not look like it."""


class TooMany(HallError):
    """More lots are shown than the look has."""


class NoMember(HallError):
    """The hall has no member of this number."""


class NoOffer(HallError):
    """No such offer stands."""


class Own(HallError):
    """A member cannot take its own offer."""


class NoBargain(HallError):
    """There is no bargain of this number."""


class NotTheirs(HallError):
    """The member is neither of the bargain's two."""


class Twice(HallError):
    """The member has handed in this card already."""


class NoQuarrel(HallError):
    """The bargain is no quarrel."""


class NoWay(HallError):
    """Both cards tell the same side, so there is nothing to consent to."""


class BadNumber(HallError):
    """A number is not within its bounds."""


class Closed(HallError):
    """The hall is closed."""


class NothingLeft(HallError):
    """There is no deed left to take back."""


class NoText(HallError):
    """The text does not tell what should be read from it."""


class NoRow(HallError):
    """The desk knows no such row."""
