"""The refusals."""


class PastError(ValueError):
    """Any refusal."""


class NoText(PastError):
    """A text is no book's writing; at is the number of the first word that fits none."""

    def __init__(self, at):
        super().__init__(f"no book is written so, from word {at} on")
        self.at = at


class Witnessed(PastError):
    """A stroke is shown by a look; at is the number of the first such look."""

    def __init__(self, at):
        super().__init__(f"look {at} shows this stroke")
        self.at = at


class BadStroke(PastError):
    """A thing is no stroke, or no tuple or list of strokes."""


class NoSlot(PastError):
    """A book has no such slot."""


class NoStroke(PastError):
    """A book has no stroke of such a number."""


class NoMoment(PastError):
    """A book has no such moment."""


class NoPlace(PastError):
    """A thing is no place, or two things are no stretch."""


class BadLook(PastError):
    """A thing is no look, or no looks, of a book."""


class BadWish(PastError):
    """A thing is no wish, or one that can't be laid beside the open ones."""


class BadLaying(PastError):
    """A thing is no laying of a book."""


class BadPrices(PastError):
    """A thing is no prices, or a colour has none."""


class NoColour(PastError):
    """A wish tells no colour."""


class Several(PastError):
    """A wish tells more than one colour."""


class Full(PastError):
    """There are as many as there may be."""


class BadName(PastError):
    """A thing is no name."""


class Twice(PastError):
    """A name is taken."""


class NoName(PastError):
    """No wall has such a name."""


class NoHand(PastError):
    """A hand has no open wish on a wall."""


class NoWish(PastError):
    """No wish is open on a wall."""


class NoMark(PastError):
    """No mark has such a name."""


class BadDeed(PastError):
    """A thing is no list of deeds, or no deed."""


class NoRow(PastError):
    """A text is no row that a desk answers."""
