"""The lines of texts that have remarks, and the numbers in them."""

from finesse.deals import PLAYERS
from finesse.errors import InvalidText

DIGITS = "0123456789"
LONGEST_NUMBER = 4


def lines_of(text):
    """Return the list of the lines of a text; a last line feed begins no line."""
    lines = text.split("\n")
    if lines[-1] == "":
        lines.pop()
    return lines


def told_lines(text):
    """Return the tuples of number and line of all lines but empty ones and remarks."""
    told = []
    for number, line in enumerate(lines_of(text), start=1):
        if line and not line.startswith("#"):
            told.append((number, line))
    return told


def read_number(text, longest):
    """Return the number with a text of some digits; raise InvalidText if there is none."""
    if not 1 <= len(text) <= longest:
        raise InvalidText("a number has some digits, but not too many")
    if len(text) > 1 and text[0] == "0":
        raise InvalidText("a number does not begin with 0")
    number = 0
    for sign in text:
        digit = DIGITS.find(sign)
        if digit < 0:
            raise InvalidText("a number is written in digits")
        number = 10 * number + digit
    return number


def read_player(text):
    """Return the player with a number; raise InvalidText if there is none."""
    player = read_number(text, 1)
    if player >= PLAYERS:
        raise InvalidText("no player has this number")
    return player
