"""The numbers of deals, and of lists of some of several things."""

from math import comb

from finesse.cards import cards_of, count_cards, mask_of
from finesse.deals import PLAYERS
from finesse.errors import NoSuchNumber


def choices(total, some):
    """Return how many sets of `some` of `total` things there are."""
    if some < 0:
        return 0
    return comb(total, some)


def set_of_number(total, some, number):
    """Return the ascending list with a number; raise NoSuchNumber if there is none."""
    behind = choices(total, some) - 1 - number
    if number < 0 or behind < 0:
        raise NoSuchNumber("no list has this number")
    numbers = []
    rest = total
    for wanted in range(some, 0, -1):
        rest = _most_things(rest, wanted, behind)
        behind -= choices(rest, wanted)
        numbers.append(total - 1 - rest)
    return numbers


def number_of_set(total, numbers):
    """Return the number of an ascending list among those of its length."""
    wanted = len(numbers)
    number = choices(total, wanted) - 1
    # The lists behind this one agree with it up to some place, and all their
    # further members are greater than the member of this one there.
    for place, member in enumerate(numbers):
        number -= choices(total - 1 - member, wanted - place)
    return number


def count_deals(deck, size):
    """Return how many deals with hands of a size a deck has."""
    cards = deck[0] * deck[1]
    if cards < PLAYERS * size:
        return 0
    count = 1
    for player in range(PLAYERS):
        count *= choices(cards - player * size, size)
    return count


def deal_of_number(deck, size, number):
    """Return the deal with a number; raise NoSuchNumber if there is none."""
    if not 0 <= number < count_deals(deck, size):
        raise NoSuchNumber("no deal has this number")
    free = list(range(deck[0] * deck[1]))
    hands = []
    for part in _hand_numbers(len(free), size, number):
        places = set_of_number(len(free), size, part)
        hand = mask_of([free[place] for place in places])
        free = _without(free, hand)
        hands.append(hand)
    return tuple(hands)


def number_of_deal(deck, hands):
    """Return the number of a deal."""
    size = count_cards(hands[0])
    free = list(range(deck[0] * deck[1]))
    number = 0
    for hand in hands:
        places = [free.index(card) for card in cards_of(hand)]
        number = number * choices(len(free), size) + number_of_set(len(free), places)
        free = _without(free, hand)
    return number


def spread(deck, size, count):
    """Return `count` deals at even distances; raise NoSuchNumber if there are no deals."""
    total = count_deals(deck, size)
    if total == 0:
        raise NoSuchNumber("the deck has no deals of this size")
    return [deal_of_number(deck, size, k * total // count) for k in range(count)]


def _most_things(below, some, limit):
    """Return the most things, fewer than `below`, with at most `limit` sets of `some`.

    There are more than `limit` sets of `some` of `below` things.
    """
    fitting = some - 1
    too_many = below
    while too_many - fitting > 1:
        middle = (fitting + too_many) // 2
        if choices(middle, some) <= limit:
            fitting = middle
        else:
            too_many = middle
    return fitting


def _hand_numbers(cards, size, number):
    """Return the numbers of the hands, each among those of the cards left to it."""
    numbers = []
    for player in reversed(range(PLAYERS)):
        number, part = divmod(number, choices(cards - player * size, size))
        numbers.append(part)
    numbers.reverse()
    return numbers


def _without(cards, hand):
    """Return the list of those cards that a hand has not."""
    return [card for card in cards if not hand >> card & 1]
