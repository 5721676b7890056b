"""Conditions as trees of lists, with their meaning and their texts in plain words, and a plain recogniser."""

import re

from tests.naive import RANKS, SUITS, members
from tests.naive_play import suit

STRENGTH = {"or": 0, "and": 1, "not": 2, "has": 3, "compare": 3}


def plain_points(deck, hand):
    return sum(max(0, card % deck[1] - deck[1] + 5) for card in members(hand))


def plain_length(deck, hand, its_suit):
    return sum(suit(deck, card) == its_suit for card in members(hand))


def plain_sum(deck, terms, hands):
    total = 0
    for sign, (kind, *rest) in terms:
        if kind == "number":
            number = rest[0]
        elif kind == "points":
            number = plain_points(deck, hands[rest[0]])
        else:
            number = plain_length(deck, hands[rest[0]], rest[1])
        total = total + number if sign == "+" else total - number
    return total


def plain_holds(deck, tree, hands):
    kind, *rest = tree
    if kind == "or":
        return any(plain_holds(deck, part, hands) for part in rest)
    if kind == "and":
        return all(plain_holds(deck, part, hands) for part in rest)
    if kind == "not":
        return not plain_holds(deck, rest[0], hands)
    if kind == "has":
        return rest[1] in members(hands[rest[0]])
    sign, left, right = rest
    left, right = plain_sum(deck, left, hands), plain_sum(deck, right, hands)
    return {"=": left == right, "<=": left <= right, ">=": left >= right}[sign]


def card_word(deck, card):
    return SUITS[card // deck[1]] + RANKS[13 - deck[1] + card % deck[1]]


def term_tokens(term):
    kind, *rest = term
    if kind == "number":
        return [str(rest[0])]
    if kind == "points":
        return ["points", "(", str(rest[0]), ")"]
    return ["len", "(", str(rest[0]), ",", SUITS[rest[1]], ")"]


def sum_tokens(terms):
    tokens = []
    for place, (sign, term) in enumerate(terms):
        tokens += ([sign] if place else []) + term_tokens(term)
    return tokens


def tokens_of(deck, tree, brackets=lambda needed: needed):
    """The tokens of a tree; `brackets` tells how many pairs of them stand where 0 or 1 are needed."""
    kind, *rest = tree
    if kind == "has":
        return ["has", "(", str(rest[0]), ",", card_word(deck, rest[1]), ")"]
    if kind == "compare":
        sign, left, right = rest
        return sum_tokens(left) + [sign] + sum_tokens(right)
    tokens = ["not"] if kind == "not" else []
    for place, part in enumerate(rest):
        pairs = brackets(1 if STRENGTH[part[0]] < STRENGTH[kind] else 0)
        tokens += [kind] if place else []
        tokens += ["("] * pairs + tokens_of(deck, part, brackets) + [")"] * pairs
    return tokens


def flat(tree):
    """The tree in which each `or` and each `and` that stands directly inside the same is joined with it."""
    kind, *rest = tree
    if kind == "not":
        return [kind, flat(rest[0])]
    if kind not in ("or", "and"):
        return tree
    joined = [kind]
    for part in rest:
        part = flat(part)
        joined += part[1:] if part[0] == kind else [part]
    return joined


def standard_text(deck, tree):
    text = ""
    before = "("
    for token in tokens_of(deck, flat(tree)):
        after_word = token == "(" and before in ("len", "points", "has")
        if text and before != "(" and token not in (")", ",") and not after_word:
            text += " "
        text += token
        before = token
    return text


def with_spaces(tokens, pick):
    """The text of tokens with `pick()` more spaces than are needed around each of them."""
    text = " " * pick()
    for place, token in enumerate(tokens):
        two_words = place > 0 and tokens[place - 1].isalnum() and token.isalnum()
        text += " " * (pick() + two_words) + token
    return text + " " * pick()


def some_tree(deck, numbers, depth):
    """A tree of any kind, by a source of numbers."""
    kind = numbers.choice(["or", "and", "not", "or", "and", "compare"]) if depth else "compare"
    if kind in ("or", "and"):
        return [kind] + [some_tree(deck, numbers, depth - 1) for _ in range(numbers.choice([2, 2, 2, 3]))]
    if kind == "not":
        return [kind, some_tree(deck, numbers, depth - 1)]
    if numbers.random() < 0.25:
        return ["has", numbers.randrange(4), numbers.randrange(deck[0] * deck[1])]
    return ["compare", numbers.choice(["=", "<=", ">="]), some_sum(deck, numbers), some_sum(deck, numbers)]


def some_sum(deck, numbers):
    terms = []
    for _ in range(numbers.choice([1, 1, 1, 2, 3])):
        kind = numbers.choice(["number", "len", "points"])
        if kind == "number":
            term = [kind, numbers.choice([0, 1, 2, 3, 4, 5, 8, 10, 12])]
        elif kind == "len":
            term = [kind, numbers.randrange(4), numbers.randrange(deck[0])]
        else:
            term = [kind, numbers.randrange(4)]
        terms.append((numbers.choice("+-") if terms else "+", term))
    return terms


def plain_is_condition(deck, text):
    """Whether a text is a condition, found by putting letters for what has been recognised; nesting is free."""
    words = re.findall(r"[a-z0-9]+|<=|>=|[(),+=-]|[^ ]", text)
    letters = [word_letter(deck, word) for word in words]
    if "?" in letters:
        return False
    found = "".join(letters)
    for pattern, letter in ((r"L\(p,s\)", "t"), (r"P\(p\)", "t"), (r"H\(p,k\)", "b"), (r"[pn]", "t"),
                            (r"t([+-]t)*", "m"), (r"m[<>=]m", "b")):
        found = re.sub(pattern, letter, found)
    while True:
        later = re.sub(r"Nb|\(b\)|b[&|]b", "b", found)
        if later == found:
            return found == "b"
        found = later


def word_letter(deck, word):
    fixed = {"len": "L", "points": "P", "has": "H", "not": "N", "and": "&", "or": "|", "<=": "<", ">=": ">"}
    if word in fixed:
        return fixed[word]
    if word in "(),+-=":
        return word
    if word in list(SUITS[:deck[0]]):
        return "s"
    if word in [card_word(deck, card) for card in range(deck[0] * deck[1])]:
        return "k"
    if re.fullmatch(r"0|[1-9][0-9]{0,3}", word):
        return "p" if word in list("0123") else "n"
    return "?"
