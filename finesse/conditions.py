"""Conditions on hands, and the fits of a view for which they hold."""

from finesse.cards import check_deck, count_cards, of_suit
from finesse.counting import fraction
from finesse.deals import points
from finesse.errors import NoFit
from finesse.formulas import formula_text, players_in, read_formula
from finesse.views import fits


class Condition:
    """A text that is true or false for four hands."""

    def __init__(self, deck, text):
        check_deck(deck)
        self._deck = deck
        self._formula = read_formula(deck, text)

    def holds(self, hands):
        """Return True if the condition is true for a tuple of four hands, otherwise False."""
        return _holds(self._deck, self._formula, hands)

    def text(self):
        """Return the text of the condition in its standard form."""
        return formula_text(self._deck, self._formula)

    def players(self):
        """Return the ascending list of the players on whose hands the condition is."""
        return sorted(set(players_in(self._formula)))


def count_where(view, condition):
    """Return how many fits fulfil a condition; raise TooMany if there are too many fits."""
    return len(fits_where(view, condition))


def fits_where(view, condition):
    """Return the list of the fits that fulfil a condition; raise TooMany."""
    return _fulfilling(fits(view), condition)


def chance_where(view, condition):
    """Return the fraction of the fits that fulfil a condition; raise TooMany or NoFit."""
    found = fits(view)
    if not found:
        raise NoFit("no deal fits what is known")
    return fraction(len(_fulfilling(found, condition)), len(found))


def _fulfilling(deals, condition):
    return [hands for hands in deals if condition.holds(hands)]


def _holds(deck, formula, hands):
    kind = formula[0]
    if kind == "or":
        return any([_holds(deck, part, hands) for part in formula[1]])
    if kind == "and":
        return all([_holds(deck, part, hands) for part in formula[1]])
    if kind == "not":
        return not _holds(deck, formula[1], hands)
    if kind == "has":
        _, player, card = formula
        return hands[player] >> card & 1 == 1
    _, sign, left, right = formula
    return _compares(_sum_of(deck, left, hands), sign, _sum_of(deck, right, hands))


def _compares(left, sign, right):
    if sign == "=":
        return left == right
    if sign == "<=":
        return left <= right
    return left >= right


def _sum_of(deck, terms, hands):
    total = 0
    for sign, term in terms:
        number = _number_of(deck, term, hands)
        total += number if sign == "+" else -number
    return total


def _number_of(deck, term, hands):
    if term[0] == "number":
        return term[1]
    if term[0] == "points":
        return points(deck, hands[term[1]])
    _, player, suit = term
    return count_cards(of_suit(deck, hands[player], suit))
