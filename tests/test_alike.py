import unittest
from itertools import permutations

from finesse.alike import count_alike, standard, with_suits, with_trump
from finesse.deals import squeezed, turned
from finesse.forced import share
from finesse.numbering import count_deals, deal_of_number
from finesse.play import Play

from tests.naive import members
from tests.naive_play import PLAY_DECKS, some_deals, trumps_of

SMALL = [((1, 4), 1), ((1, 6), 1), ((2, 2), 1), ((2, 3), 1), ((3, 2), 1), ((4, 1), 1), ((4, 2), 1), ((2, 4), 2)]


def plain_deal(deck, hands):
    """For each player the list of pairs of suit and rank."""
    return [[divmod(card, deck[1]) for card in members(hand)] for hand in hands]


def masks(ranks, deal):
    return tuple(sum(2 ** (suit * ranks + rank) for suit, rank in hand) for hand in deal)


def plain_squeezed(deck, deal):
    """The number of ranks, and the deal in which each suit has the highest ranks without gaps."""
    in_play = [sorted(rank for hand in deal for suit, rank in hand if suit == s) for s in range(deck[0])]
    ranks = max(max(len(suit) for suit in in_play), 1)
    return ranks, [[(s, ranks - len(in_play[s]) + in_play[s].index(rank)) for s, rank in hand] for hand in deal]


def plain_standard(deck, hands, trump, leader):
    """The standard form by the words of point 14.3."""
    deal = plain_deal(deck, hands)
    deal = deal[leader:] + deal[:leader]
    ranks, deal = plain_squeezed(deck, deal)
    found = []
    for order in permutations(range(deck[0])):
        if trump == -1 or order[trump] == 0:
            changed = [[(order[suit], rank) for suit, rank in hand] for hand in deal]
            found.append(((deck[0], ranks), masks(ranks, changed), -1 if trump == -1 else order[trump]))
    return min(found)


def all_deals(deck, size):
    return [deal_of_number(deck, size, number) for number in range(count_deals(deck, size))]


class OtherSuits(unittest.TestCase):
    def test_all_orders(self):
        for deck, size in PLAY_DECKS:
            for hands in some_deals(deck, size, 5, 3):
                for order in permutations(range(deck[0])):
                    changed = [[(order[suit], rank) for suit, rank in hand] for hand in plain_deal(deck, hands)]
                    given = list(order)
                    self.assertEqual(with_suits(deck, hands, given), masks(deck[1], changed))
                    self.assertEqual(given, list(order))

    def test_example_of_the_interface(self):
        self.assertEqual(with_suits((2, 2), (1, 2, 4, 8), [1, 0]), (4, 8, 1, 2))

    def test_three_suits_in_a_circle(self):
        # Suit 0 becomes suit 1, and so on; the other direction would be wrong.
        hands = (0b000011, 0b001100, 0b110000, 0)
        self.assertEqual(with_suits((3, 2), hands, [1, 2, 0]), (0b001100, 0b110000, 0b000011, 0))
        self.assertEqual(with_suits((3, 2), hands, [2, 0, 1]), (0b110000, 0b000011, 0b001100, 0))

    def test_one_suit(self):
        self.assertEqual(with_suits((1, 4), (8, 1, 4, 2), [0]), (8, 1, 4, 2))

    def test_trumps(self):
        for order in ([0], [1, 0], [2, 0, 1], [3, 1, 0, 2]):
            self.assertEqual(with_trump(-1, order), -1)
            for trump, place in enumerate(order):
                self.assertEqual(with_trump(trump, order), place)


class Standard(unittest.TestCase):
    def test_by_the_words_of_the_point(self):
        for deck, size in PLAY_DECKS:
            for hands in some_deals(deck, size, 6, 5):
                for trump in trumps_of(deck):
                    for leader in range(4):
                        with self.subTest(deck=deck, hands=hands, trump=trump, leader=leader):
                            self.assertEqual(standard(deck, hands, trump, leader), plain_standard(deck, hands, trump, leader))

    def test_written_out(self):
        # Player 2 leads, the middle ranks are out of play, and suit 1 has the trumps.
        self.assertEqual(standard((2, 4), (0b10000000, 0b00000001, 0b00010000, 0b00001000), 1, 2),
                         ((2, 2), (0b0001, 0b1000, 0b0010, 0b0100), 0))
        self.assertEqual(standard((1, 9), (1, 16, 4, 64), -1, 1), ((1, 4), (4, 2, 8, 1), -1))
        self.assertEqual(standard((4, 1), (1, 2, 4, 8), -1, 0), ((4, 1), (1, 2, 4, 8), -1))
        self.assertEqual(standard((4, 1), (8, 4, 2, 1), -1, 3), ((4, 1), (1, 2, 4, 8), -1))
        self.assertEqual(standard((4, 1), (1, 2, 4, 8), 3, 0), ((4, 1), (2, 4, 8, 1), 0))

    def test_suits_without_cards(self):
        # The cards of one suit only are in play; without trumps it becomes suit 0.
        hands = tuple(2 ** (13 * 2 + k) for k in (0, 5, 7, 12))
        self.assertEqual(standard((4, 13), hands, -1, 0), ((4, 4), (1, 2, 4, 8), -1))
        self.assertEqual(standard((4, 13), hands, 2, 0), ((4, 4), (1, 2, 4, 8), 0))
        self.assertEqual(standard((4, 13), hands, 3, 0), ((4, 4), (16, 32, 64, 128), 0))

    def test_it_is_its_own_standard_form(self):
        for deck, size in PLAY_DECKS:
            for hands in some_deals(deck, size, 4, 11):
                for trump in trumps_of(deck):
                    small, deal, standard_trump = standard(deck, hands, trump, 3)
                    self.assertEqual(standard(small, deal, standard_trump, 0), (small, deal, standard_trump))
                    self.assertEqual([type(small), type(deal), type(deal[0]), type(standard_trump)], [tuple, tuple, int, int])

    def test_alike_deals_have_the_same_form(self):
        for deck, size in PLAY_DECKS:
            for hands in some_deals(deck, size, 3, 13):
                for trump in trumps_of(deck):
                    form = standard(deck, hands, trump, 0)
                    for order in permutations(range(deck[0])):
                        other = with_suits(deck, hands, list(order))
                        self.assertEqual(standard(deck, other, with_trump(trump, order), 0), form)
                    small, other = squeezed(deck, hands)
                    self.assertEqual(standard(small, other, trump, 0), form)
                    for by in range(4):
                        self.assertEqual(standard(deck, turned(hands, by), trump, by), form)


class SameShares(unittest.TestCase):
    def test_the_changes_keep_or_exchange_the_shares(self):
        for deck, size in PLAY_DECKS:
            for step, hands in enumerate(some_deals(deck, size, 3, 17)):
                for trump in trumps_of(deck):
                    shares = [share(Play(deck, hands, trump, step), side) for side in (0, 1)]
                    for order in list(permutations(range(deck[0])))[::3]:
                        play = Play(deck, with_suits(deck, hands, list(order)), with_trump(trump, order), step)
                        self.assertEqual([share(play, 0), share(play, 1)], shares)
                    play = Play(*squeezed(deck, hands), trump, step)
                    self.assertEqual([share(play, 0), share(play, 1)], shares)
                    for by in range(4):
                        play = Play(deck, turned(hands, by), trump, (step + by) % 4)
                        self.assertEqual([share(play, by % 2), share(play, 1 - by % 2)], shares)

    def test_the_standard_form_keeps_the_share_of_the_leader(self):
        for deck, size in PLAY_DECKS:
            for hands in some_deals(deck, size, 4, 19):
                for trump in trumps_of(deck):
                    for leader in range(4):
                        small, deal, standard_trump = standard(deck, hands, trump, leader)
                        self.assertEqual(share(Play(small, deal, standard_trump, 0), 0),
                                         share(Play(deck, hands, trump, leader), leader % 2))


class CountAlike(unittest.TestCase):
    def test_all_deals_of_small_decks(self):
        for deck, size in SMALL:
            for trump in trumps_of(deck):
                for leader in (0, 1, 3):
                    groups = {}
                    for hands in all_deals(deck, size):
                        groups.setdefault(plain_standard(deck, hands, trump, leader), []).append(hands)
                    for deals in groups.values():
                        for hands in deals[:2] + deals[-1:]:
                            with self.subTest(deck=deck, hands=hands, trump=trump, leader=leader):
                                self.assertEqual(count_alike(deck, hands, trump, leader), len(deals))

    def test_written_out(self):
        # Any four of 13 cards, in any of four suits; with trumps, in that suit or in one of three others.
        hands = tuple(2 ** (13 * 2 + k) for k in (0, 5, 7, 12))
        self.assertEqual(count_alike((4, 13), hands, -1, 0), 4 * 715)
        self.assertEqual(count_alike((4, 13), hands, 2, 0), 715)
        self.assertEqual(count_alike((4, 13), hands, 0, 0), 3 * 715)
        # Each player has a suit.
        hands = tuple((2 ** 13 - 1) << 13 * player for player in range(4))
        self.assertEqual(count_alike((4, 13), hands, -1, 2), 24)
        self.assertEqual(count_alike((4, 13), hands, 3, 2), 6)
        self.assertEqual(count_alike((1, 4), (1, 2, 4, 8), -1, 0), 1)
        self.assertEqual(count_alike((4, 1), (1, 2, 4, 8), -1, 0), 24)

    def test_a_deal_that_is_alike_itself_with_other_suits(self):
        # Exchanging the suits gives the same deal.
        hands = (0b00010001, 0b00100010, 0b01000100, 0b10001000)
        self.assertEqual(count_alike((2, 4), hands, -1, 0), 1)
        self.assertEqual(count_alike((2, 4), hands, 0, 0), 1)


if __name__ == "__main__":
    unittest.main()
