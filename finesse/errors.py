"""The errors of the package, each directly below FinesseError."""


class FinesseError(ValueError):
    """The base class of all errors of the package."""


class InvalidDeck(FinesseError):
    """There is no deck with these numbers of suits and ranks."""


class InvalidText(FinesseError):
    """Nothing of the wanted kind has this text."""


class InvalidDeal(FinesseError):
    """The four hands are not a deal of the deck."""


class NoSuchNumber(FinesseError):
    """Nothing has this number."""


class AuctionOver(FinesseError):
    """No more calls can be made."""


class AuctionNotOver(FinesseError):
    """The auction has no result yet."""


class IllegalCall(FinesseError):
    """The call may not be made now."""


class InvalidTrump(FinesseError):
    """The trump is neither a suit of the deck nor -1."""


class PlayOver(FinesseError):
    """All cards have been put."""


class IllegalCard(FinesseError):
    """The card may not be put now."""


class NothingPut(FinesseError):
    """There is no card that could be taken back."""


class WrongPaper(FinesseError):
    """The strategy paper does not hold."""


class InvalidView(FinesseError):
    """What is known of the hands contradicts itself."""


class TooMany(FinesseError):
    """There are more than can be gone through."""


class NoFit(FinesseError):
    """No deal fits what is known."""


class InvalidLine(FinesseError):
    """A line of a text is wrong; `line` is its number, counted from 1."""

    def __init__(self, line):
        super().__init__(f"line {line}")
        self.line = line
