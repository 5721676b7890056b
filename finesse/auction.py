"""Auctions: their calls, the contract in which they end, and how many there are."""

from finesse.cards import SUIT_LETTERS
from finesse.deals import PLAYERS
from finesse.errors import AuctionNotOver, AuctionOver, IllegalCall, InvalidText
from finesse.lines import read_number

PASS = ("pass",)
DOUBLE = ("double",)
REDOUBLE = ("redouble",)
DOUBLED = {"bid": 0, "double": 1, "redouble": 2}
SHORT_TEXTS = {"pass": "P", "double": "X", "redouble": "XX"}
CALLS_OF_TEXTS = {"P": ("pass",), "X": ("double",), "XX": ("redouble",)}
NO_TRUMPS = "n"
LONGEST_LEVEL = 2
# Up to three passes.
WAYS_BEFORE_BIDS = 4
WAYS_BETWEEN_BIDS = 21
# No double, or one of 2 behind which no redouble or one of 2 comes, and three passes.
WAYS_AFTER_BIDS = 7


class Auction:
    """An auction for a deck with some suits and for hands of a size."""

    def __init__(self, suits, size, dealer):
        self._suits = suits
        self._levels = levels_of(size)
        self._dealer = dealer
        self._made = []

    def turn(self):
        """Return the player who calls next, or would if the auction were not over."""
        return self._caller(len(self._made))

    def calls(self):
        """Return the list of the calls so far."""
        return list(self._made)

    def legal(self):
        """Return the list of the legal calls."""
        if self.is_over():
            return []
        short_calls = [call for call in (PASS, DOUBLE, REDOUBLE) if self._is_legal(call)]
        return short_calls + self._higher_bids()

    def call(self, call):
        """Make a call; raise AuctionOver or IllegalCall if it cannot be made."""
        if self.is_over():
            raise AuctionOver("no more calls can be made")
        if not self._is_legal(call):
            raise IllegalCall("this call may not be made now")
        self._made.append(call)

    def is_over(self):
        """Return True if no more calls can be made, otherwise False."""
        # Three passes at the beginning still leave a call to the fourth player.
        return len(self._made) >= PLAYERS and self._made[-3:] == [PASS, PASS, PASS]

    def contract(self):
        """Return the contract, or None; raise AuctionNotOver if the auction goes on."""
        if not self.is_over():
            raise AuctionNotOver("the auction is not over")
        place = self._last(["bid"])
        if place < 0:
            return None
        _, level, strain = self._made[place]
        last_kind = self._made[self._last(["bid", "double", "redouble"])][0]
        return level, strain, DOUBLED[last_kind], self._declarer(place, strain)

    def _caller(self, place):
        return (self._dealer + place) % PLAYERS

    def _last(self, kinds):
        """Return the place of the last call of one of these kinds, or -1."""
        for place in reversed(range(len(self._made))):
            if self._made[place][0] in kinds:
                return place
        return -1

    def _answers(self, kind):
        """Return True if the last call but passes is of a kind and by the other side."""
        place = self._last(["bid", "double", "redouble"])
        if place < 0 or self._made[place][0] != kind:
            return False
        return (len(self._made) - place) % 2 == 1

    def _is_legal(self, call):
        """Return True if a call may be made while the auction is not over."""
        if call == DOUBLE:
            return self._answers("bid")
        if call == REDOUBLE:
            return self._answers("double")
        return call == PASS or self._is_higher_bid(call)

    def _is_higher_bid(self, call):
        if len(call) != 3 or call[0] != "bid":
            return False
        _, level, strain = call
        exists = 1 <= level <= self._levels and 0 <= strain <= self._suits
        return exists and (level, strain) > self._highest()

    def _higher_bids(self):
        """Return the list of the bids that may be made, the lowest first."""
        level, strain = self._highest()
        bids = [("bid", level, higher) for higher in range(strain + 1, self._suits + 1)]
        for higher in range(level + 1, self._levels + 1):
            bids += [("bid", higher, each) for each in range(self._suits + 1)]
        return bids

    def _highest(self):
        """Return level and strain of the last bid, or what is below all bids."""
        place = self._last(["bid"])
        if place < 0:
            return 0, self._suits
        return self._made[place][1:]

    def _declarer(self, last_bid, strain):
        """Return who of the side of the last bid was the first to bid the strain."""
        # The two players of this side are those who call at every second place.
        for place in range(last_bid % 2, last_bid, 2):
            call = self._made[place]
            if call[0] == "bid" and call[2] == strain:
                return self._caller(place)
        return self._caller(last_bid)


def book_of(size):
    """Return how many tricks a bid promises before those of its level."""
    return size // 2


def levels_of(size):
    """Return the greatest level of a bid."""
    return size - book_of(size)


def call_text(suits, call):
    """Return the text of a call."""
    if call[0] in SHORT_TEXTS:
        return SHORT_TEXTS[call[0]]
    _, level, strain = call
    return str(level) + _strain_letters(suits)[strain]


def read_call(suits, text):
    """Return the call with a text; raise InvalidText if there is none."""
    if text in CALLS_OF_TEXTS:
        return CALLS_OF_TEXTS[text]
    if len(text) < 2:
        raise InvalidText("a bid has a level and a letter")
    strain = _strain_letters(suits).find(text[-1])
    if strain < 0:
        raise InvalidText("no strain has this letter")
    return "bid", _read_level(text[:-1]), strain


def count_auctions(suits, size):
    """Return how many lists of calls can be a whole auction."""
    # The bids of an auction rise, so each bid either stands alone, or is left out,
    # or follows some lower ones, with one of the 21 things in between.
    ways_to_last_bid = 0
    for _ in range(levels_of(size) * (suits + 1)):
        ways_to_last_bid += 1 + WAYS_BETWEEN_BIDS * ways_to_last_bid
    four_passes = 1
    return four_passes + WAYS_BEFORE_BIDS * ways_to_last_bid * WAYS_AFTER_BIDS


def _strain_letters(suits):
    return SUIT_LETTERS[:suits] + NO_TRUMPS


def _read_level(digits):
    """Return the level with these digits; raise InvalidText if there is none."""
    level = read_number(digits, LONGEST_LEVEL)
    if level == 0:
        raise InvalidText("a level is at least 1")
    return level
