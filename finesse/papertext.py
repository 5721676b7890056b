"""The texts of strategy papers."""

from finesse.cards import SUIT_LETTERS, card_text, mask_of, read_card
from finesse.deals import deal_text, read_hand
from finesse.errors import InvalidText
from finesse.lines import read_player
from finesse.play import NO_TRUMPS

LETTER_OF_NO_TRUMPS = "n"
EMPTY_TRICK = "."
# The trump, four hands, the leader, the present trick, and the card that is told.
WORDS = 8


def paper_text(deck, paper):
    """Return the text of a paper, with one line for each entry."""
    return "".join([_entry_text(deck, position, card) + "\n" for position, card in paper])


def read_paper(deck, text):
    """Return the paper with a text; raise InvalidText if there is none."""
    lines = text.split("\n")
    if lines.pop() != "":
        raise InvalidText("each line ends with a line feed")
    paper = [_read_entry(deck, line) for line in lines]
    for place in range(1, len(paper)):
        if paper[place][0] <= paper[place - 1][0]:
            raise InvalidText("the positions of the entries ascend")
    return tuple(paper)


def _entry_text(deck, position, card):
    trump, hands, leader, led = position
    trick = "-".join([card_text(deck, put) for put in led])
    words = [_trump_text(trump), deal_text(deck, hands), str(leader), trick or EMPTY_TRICK, card_text(deck, card)]
    return " ".join(words)


def _read_entry(deck, line):
    """Return the tuple of position and card with a text."""
    words = line.split(" ")
    if len(words) != WORDS:
        raise InvalidText("an entry has eight words")
    trump = _read_trump(deck, words[0])
    hands = tuple([read_hand(deck, word) for word in words[1:5]])
    leader = read_player(words[5])
    led = _read_trick(deck, words[6])
    _check_cards(hands, led)
    return (trump, hands, leader, led), read_card(deck, words[7])


def _trump_text(trump):
    if trump == NO_TRUMPS:
        return LETTER_OF_NO_TRUMPS
    return SUIT_LETTERS[trump]


def _read_trump(deck, word):
    for trump in range(NO_TRUMPS, deck[0]):
        if _trump_text(trump) == word:
            return trump
    raise InvalidText("no trump has this letter")


def _read_trick(deck, word):
    if word == EMPTY_TRICK:
        return ()
    return tuple([read_card(deck, part) for part in word.split("-")])


def _check_cards(hands, led):
    """Raise InvalidText if a card is in two hands, or in a hand and in the trick."""
    held = 0
    for cards in (mask_of(led), *hands):
        if cards & held:
            raise InvalidText("a card is in one place only")
        held |= cards
