"""Deals that are alike: they differ only in who sits where, in suits, and in gaps between ranks."""

from itertools import permutations

from finesse.cards import card_of, cards_of, mask_of, rank_of, suit_of
from finesse.deals import PLAYERS, lengths, squeezed, turned
from finesse.numbering import choices
from finesse.play import NO_TRUMPS


def with_suits(deck, hands, order):
    """Return the deal in which suit `order[s]` has the ranks that suit `s` had."""
    return tuple([_hand_with_suits(deck, hand, order) for hand in hands])


def with_trump(trump, order):
    """Return the trump suit, or -1, that belongs to another order of the suits."""
    if trump == NO_TRUMPS:
        return NO_TRUMPS
    return order[trump]


def standard(deck, hands, trump, leader):
    """Return the small deck, the deal and the trump in which all deals that are alike agree."""
    small, deal = squeezed(deck, turned(hands, (PLAYERS - leader) % PLAYERS))
    standard_trump = min(trump, 0)
    return small, min(_in_all_orders(small, deal, trump, standard_trump)), standard_trump


def count_alike(deck, hands, trump, leader):
    """Return how many deals of the deck have the same standard form."""
    # With the same leader for all of them, it does not matter who leads.
    small, deal = squeezed(deck, hands)
    # Each of the squeezed deals comes from as many deals of the deck.
    count = len(set(_in_all_orders(small, deal, trump, trump)))
    for length in lengths(small, deal[0] | deal[1] | deal[2] | deal[3]):
        count *= choices(deck[1], length)
    return count


def _hand_with_suits(deck, hand, order):
    return mask_of([card_of(deck, order[suit_of(deck, card)], rank_of(deck, card)) for card in cards_of(hand)])


def _in_all_orders(deck, hands, trump, new_trump):
    """Return the deals with the suits in any order in which the trump becomes another one."""
    orders = [order for order in permutations(range(deck[0])) if with_trump(trump, order) == new_trump]
    return [with_suits(deck, hands, order) for order in orders]
