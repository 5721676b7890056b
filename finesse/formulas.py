"""The grammar of conditions: texts are read into formulas, and formulas written as texts.

A formula is one of the tuples ("or", formulas), ("and", formulas), ("not", formula),
("has", player, card) and ("compare", sign, left, right). Left and right are lists of
the tuples of "+" or "-" and a term, and a term is one of the tuples ("number", number),
("len", player, suit) and ("points", player).
"""

from finesse.cards import SUIT_LETTERS, card_text, read_card
from finesse.errors import InvalidText
from finesse.lines import LONGEST_NUMBER, read_number, read_player

LETTERS_AND_DIGITS = "abcdefghijklmnopqrstuvwxyz0123456789"
LONG_SIGNS = ("<=", ">=")
SHORT_SIGNS = ("(", ")", ",", "+", "-", "=")
COMPARISONS = ("<=", ">=", "=")
SPACE = " "
# No token is a space.
END = " "
DEEPEST = 40
# A formula needs brackets inside one that binds its parts more strongly. Inside one of
# the same kind it has none, and so the text shows both as one.
STRENGTHS = {"or": 0, "and": 1, "not": 2, "has": 3, "compare": 3}


class Reader:
    """The tokens of a text, read from the first one on."""

    def __init__(self, deck, tokens):
        self._deck = deck
        self._tokens = tokens + [END]
        self._place = 0

    def formula(self):
        """Return the formula that all tokens are; raise InvalidText if they are none."""
        formula = self._condition(0)
        self._expect(END)
        return formula

    def _next(self):
        return self._tokens[self._place]

    def _take(self):
        token = self._next()
        self._place += 1
        return token

    def _takes(self, token):
        """Return True and go on if this is the next token, otherwise False."""
        if self._next() != token:
            return False
        self._place += 1
        return True

    def _expect(self, token):
        if not self._takes(token):
            raise InvalidText("another token is needed here")

    def _condition(self, depth):
        parts = [self._joined(depth)]
        while self._takes("or"):
            parts.append(self._joined(depth))
        return _junction("or", parts)

    def _joined(self, depth):
        parts = [self._simple(depth)]
        while self._takes("and"):
            parts.append(self._simple(depth))
        return _junction("and", parts)

    def _simple(self, depth):
        if self._next() in ("not", "(") and depth == DEEPEST:
            raise InvalidText("words not and brackets are nested too deep")
        if self._takes("not"):
            return "not", self._simple(depth + 1)
        if self._takes("("):
            inner = self._condition(depth + 1)
            self._expect(")")
            return inner
        if self._takes("has"):
            self._expect("(")
            player = self._player_and_comma()
            card = read_card(self._deck, self._take())
            self._expect(")")
            return "has", player, card
        return self._comparison()

    def _comparison(self):
        left = self._sum()
        sign = self._take()
        if sign not in COMPARISONS:
            raise InvalidText("two sums are compared")
        return "compare", sign, left, self._sum()

    def _sum(self):
        terms = [("+", self._term())]
        while self._next() in ("+", "-"):
            sign = self._take()
            terms.append((sign, self._term()))
        return terms

    def _term(self):
        if self._takes("len"):
            self._expect("(")
            player = self._player_and_comma()
            suit = self._suit()
            self._expect(")")
            return "len", player, suit
        if self._takes("points"):
            self._expect("(")
            player = read_player(self._take())
            self._expect(")")
            return "points", player
        return "number", read_number(self._take(), LONGEST_NUMBER)

    def _player_and_comma(self):
        player = read_player(self._take())
        self._expect(",")
        return player

    def _suit(self):
        letters = list(SUIT_LETTERS[:self._deck[0]])
        letter = self._take()
        if letter not in letters:
            raise InvalidText("no suit has this letter")
        return letters.index(letter)


def read_formula(deck, text):
    """Return the formula with a text; raise InvalidText if there is none."""
    return Reader(deck, _tokens_of(text)).formula()


def formula_text(deck, formula):
    """Return the text of a formula in its standard form."""
    kind = formula[0]
    if kind == "not":
        return "not " + _text_inside(deck, "not", formula[1])
    if kind == "has":
        _, player, card = formula
        return f"has({player}, {card_text(deck, card)})"
    if kind == "compare":
        _, sign, left, right = formula
        return f"{_sum_text(left)} {sign} {_sum_text(right)}"
    separator = f" {kind} "
    return separator.join([_text_inside(deck, kind, part) for part in formula[1]])


def players_in(formula):
    """Return the list of the players that occur in a formula, also with repetitions."""
    kind = formula[0]
    if kind == "not":
        return players_in(formula[1])
    if kind == "has":
        return [formula[1]]
    if kind == "compare":
        _, _, left, right = formula
        return [term[1] for _, term in left + right if term[0] != "number"]
    return [player for part in formula[1] for player in players_in(part)]


def _tokens_of(text):
    tokens = []
    place = 0
    while place < len(text):
        end = _end_of_token(text, place)
        if text[place] != SPACE:
            tokens.append(text[place:end])
        place = end
    return tokens


def _end_of_token(text, place):
    """Return the place behind the token, or the space, that begins at a place."""
    end = place
    while end < len(text) and text[end] in LETTERS_AND_DIGITS:
        end += 1
    if end > place:
        return end
    if text[place:place + 2] in LONG_SIGNS:
        return place + 2
    if text[place] != SPACE and text[place] not in SHORT_SIGNS:
        raise InvalidText("no token has this character")
    return place + 1


def _junction(word, parts):
    """Return the formula of one part, or of several ones joined by a word."""
    if len(parts) == 1:
        return parts[0]
    return word, parts


def _text_inside(deck, kind, part):
    """Return the text of a part of a formula of some kind, in brackets if it needs them."""
    text = formula_text(deck, part)
    if STRENGTHS[part[0]] < STRENGTHS[kind]:
        return f"({text})"
    return text


def _sum_text(terms):
    parts = [f"{sign} {_term_text(term)}" for sign, term in terms]
    # The first term has no sign.
    return " ".join(parts)[2:]


def _term_text(term):
    if term[0] == "number":
        return str(term[1])
    if term[0] == "points":
        return f"points({term[1]})"
    _, player, suit = term
    return f"len({player}, {SUIT_LETTERS[suit]})"
