import time
import unittest
from itertools import combinations

from finesse.forced import alike, best_cards, card_shares, line_of, share
from finesse.play import Play, play_at

from tests.naive import members
from tests.naive_play import (
    PLAY_DECKS, plain_after, plain_legal, plain_shares, plain_shares_after, plain_turn, some_deals, state, suit,
    trumps_of, walked,
)

FOUR_CARDS = [((4, 4), 4), ((2, 8), 4), ((4, 13), 4), ((3, 6), 4), ((2, 11), 4)]


def some_plays(decks, deals, every=1):
    """Plays of some deals with all trumps, at their beginnings and in their middles and ends."""
    for deck, size in decks:
        for step, hands in enumerate(some_deals(deck, size, deals)):
            for trump in trumps_of(deck):
                for cards in range(0, 4 * size + 1, every):
                    yield walked(deck, hands, trump, (step + trump + cards) % 4, step, cards)


def plain_alike(play):
    """The groups by point 7.4, each card compared with each other one."""
    deck, legal = play.deck(), play.legal()
    groups = [[card] for card in legal]
    for low, high in combinations(legal, 2):
        own = members(play.hands()[play.turn()])
        held = [card for hand in play.hands() for card in members(hand)]
        between = range(low + 1, high)
        if suit(deck, low) == suit(deck, high) and all(
                card in own or (card not in held and card not in play.led()) for card in between):
            for group in groups:
                if low in group:
                    group.append(high)
    groups = [sorted(set(group)) for group in groups]
    return [group for group in groups if not any(set(group) < set(other) for other in groups)]


class Shares(unittest.TestCase):
    def test_example_of_the_interface(self):
        play = Play((1, 4), (1, 2, 4, 8), -1, 0)
        self.assertEqual((share(play, 0), share(play, 1)), (0, 1))

    def test_written_out(self):
        # One suit: player 1 wins only if the ace, which plays after it, has a smaller card beside it.
        self.assertEqual(share(Play((1, 8), (1 + 4, 2 + 64, 8 + 16, 32 + 128), -1, 0), 0), 0)
        # A trump wins what the ace would win.
        self.assertEqual(share(Play((2, 4), (8, 16, 1, 2), -1, 0), 0), 1)
        self.assertEqual(share(Play((2, 4), (8, 16, 1, 2), 1, 0), 0), 0)
        self.assertEqual(share(Play((2, 4), (8, 16, 1, 2), 0, 0), 0), 1)
        # Who leads to the last trick wins it.
        for leader in range(4):
            play = Play((4, 2), (1, 4, 16, 64), -1, leader)
            self.assertEqual(share(play, leader % 2), 1)
            self.assertEqual(share(play, 1 - leader % 2), 0)

    def test_who_plays_behind_the_king(self):
        # Player 2 has ace and queen: the queen wins only if king and jack lie before them.
        low, ace_and_queen, king_and_jack, others = 0b1000011, 0b10101000, 0b100010100, 0b111000000000
        before = Play((2, 6), (low, king_and_jack, ace_and_queen, others), -1, 0)
        behind = Play((2, 6), (low, others, ace_and_queen, king_and_jack), -1, 0)
        self.assertEqual((share(before, 0), share(before, 1)), (2, 1))
        self.assertEqual((share(behind, 0), share(behind, 1)), (1, 2))

    def test_by_going_through_all_plays(self):
        for play in some_plays(PLAY_DECKS, 3, 2):
            expected = plain_shares(play.deck(), play.position())
            with self.subTest(deck=play.deck(), position=play.position()):
                self.assertEqual((share(play, 0), share(play, 1)), expected)

    def test_small_decks_altogether(self):
        for deck, size in (((1, 5), 1), ((4, 1), 1), ((3, 2), 1), ((2, 4), 2)):
            for hands in some_deals(deck, size, 150):
                for trump in trumps_of(deck):
                    for leader in range(4):
                        play = Play(deck, hands, trump, leader)
                        with self.subTest(deck=deck, hands=hands, trump=trump, leader=leader):
                            expected = plain_shares(deck, play.position())
                            self.assertEqual((share(play, 0), share(play, 1)), expected)

    def test_four_cards(self):
        for deck, size in FOUR_CARDS:
            for hands in some_deals(deck, size, 3):
                for trump in (-1, 0):
                    play = Play(deck, hands, trump, 3)
                    with self.subTest(deck=deck, hands=hands, trump=trump):
                        expected = plain_shares(deck, play.position())
                        self.assertEqual((share(play, 0), share(play, 1)), expected)

    def test_only_tricks_that_are_not_complete_count(self):
        play = walked((2, 4), (9, 36, 66, 144), 1, 0, 1, 4)
        self.assertEqual((play.left(), share(play, 0) + share(play, 1)), (1, 1))
        later = play_at((2, 4), play.position())
        self.assertEqual((share(later, 0), share(later, 1)), (share(play, 0), share(play, 1)))

    def test_the_end(self):
        play = walked((2, 4), (9, 36, 66, 144), 1, 0, 1, 8)
        self.assertEqual((share(play, 0), share(play, 1)), (0, 0))
        self.assertIs(type(share(play, 0)), int)


class SharesOfCards(unittest.TestCase):
    def test_by_going_through_all_plays(self):
        for play in some_plays(PLAY_DECKS, 2, 1):
            self.compare(play)

    def test_four_cards(self):
        for play in some_plays(FOUR_CARDS[:3], 1, 5):
            self.compare(play)

    def test_positions_that_are_reached_with_different_tricks(self):
        for deck, hands, trump, leader in (
                ((3, 6), (132609, 98568, 20498, 8356), -1, 0), ((2, 8), (32936, 325, 14338, 17936), -1, 2),
                ((2, 8), (594, 17448, 38916, 8577), 1, 0), ((3, 6), (82688, 8259, 134176, 32908), 0, 1),
                ((4, 4), (20490, 33797, 10512, 736), 3, 0)):
            self.compare(Play(deck, hands, trump, leader))

    def compare(self, play):
        deck, position, known = play.deck(), play.position(), {}
        side = plain_turn(position) % 2
        expected = {card: plain_shares_after(deck, position, card, known)[side] for card in plain_legal(deck, position)}
        best = [card for card in sorted(expected) if expected[card] == max(expected.values())]
        with self.subTest(deck=deck, position=position):
            self.assertEqual(card_shares(play), expected)
            self.assertEqual(best_cards(play), best)
            if expected:
                self.assertEqual(max(expected.values()), share(play, side))

    def test_written_out(self):
        play = Play((1, 8), (1 + 4, 2 + 64, 8 + 16, 32 + 128), -1, 3)
        self.assertEqual(card_shares(play), {5: 2, 7: 2})
        self.assertEqual(best_cards(play), [5, 7])
        play = play_at((2, 4), (-1, (1, 12, 2, 16), 2, (6, 7, 5)))
        self.assertEqual(card_shares(play), {2: 2, 3: 2})

    def test_the_completed_trick_is_counted(self):
        play = play_at((1, 8), (-1, (1, 2 + 64, 128, 32), 2, (4, 2, 3)))
        self.assertEqual(card_shares(play), {1: 0, 6: 1})
        self.assertEqual(best_cards(play), [6])

    def test_the_end(self):
        play = walked((2, 4), (9, 36, 66, 144), 1, 0, 1, 8)
        self.assertEqual((card_shares(play), best_cards(play)), ({}, []))


class Alike(unittest.TestCase):
    def test_example_of_the_interface(self):
        self.assertEqual(alike(Play((1, 8), (3, 12, 48, 192), -1, 0)), [[0, 1]])

    def test_by_the_plain_words(self):
        for play in some_plays(PLAY_DECKS + FOUR_CARDS, 4, 1):
            with self.subTest(deck=play.deck(), position=play.position()):
                if play.is_over():
                    self.assertEqual(alike(play), [])
                else:
                    self.assertEqual(alike(play), plain_alike(play))

    def test_cards_of_one_group_have_the_same_share(self):
        for play in some_plays(PLAY_DECKS[5:], 2, 1):
            shares = card_shares(play)
            for group in alike(play):
                self.assertEqual(len({shares[card] for card in group}), 1)

    def test_cards_of_others_between(self):
        play = Play((1, 8), (1 + 4, 2 + 8, 16 + 32, 64 + 128), -1, 0)
        self.assertEqual(alike(play), [[0], [2]])
        # Card 1 lies in the present trick, and then it is gone.
        play = play_at((1, 13), (-1, (1 + 4, 8, 64, 256), 1, (1, 5, 7)))
        self.assertEqual(alike(play), [[0], [2]])
        play = play_at((1, 13), (-1, (1 + 4, 8 + 16, 64, 256), 2, (1, 5)))
        self.assertEqual(alike(play), [[0], [2]])
        play = play_at((1, 13), (-1, (1 + 4, 8 + 16, 64 + 32, 256 + 128), 0, ()))
        self.assertEqual(alike(play), [[0, 2]])

    def test_cards_out_of_play_between(self):
        self.assertEqual(alike(Play((1, 13), (1 + 4096, 2 + 8, 0b1100000, 0b110000000), -1, 0)), [[0], [12]])
        self.assertEqual(alike(Play((1, 13), (0b1001, 0b1100000, 0b110000000, 0b11000000000), -1, 0)), [[0, 3]])

    def test_suits_are_kept_apart(self):
        self.assertEqual(alike(Play((2, 4), (0b00011000, 0b01100000, 0b00000110, 0b10000001), -1, 0)), [[3], [4]])
        self.assertEqual(alike(Play((3, 4), (0b00011100, 0b01100001, 0b10000010 + 256, 3584), -1, 0)), [[2, 3], [4]])

    def test_several_groups_in_their_order(self):
        hands = (0b0000100111011, 0b1111000000100, 0b11111 << 13, 0b11111 << 18)
        self.assertEqual(alike(Play((2, 13), (hands[0] - 256, *hands[1:]), -1, 0)), [[0, 1], [3, 4, 5]])
        play = Play((2, 13), (hands[0] - 1, *hands[1:]), -1, 0)
        self.assertEqual(alike(play), [[1], [3, 4, 5, 8]])
        play = Play((2, 13), (hands[0] - 1, 0b11111 << 18, 0b11111 << 13, hands[1]), -1, 2)
        self.assertEqual(alike(play), [[13, 14, 15, 16, 17]])

class Lines(unittest.TestCase):
    def test_each_card_is_a_best_card(self):
        for play in some_plays(PLAY_DECKS, 2, 3):
            with self.subTest(deck=play.deck(), position=play.position()):
                self.follow(play)

    def test_four_cards(self):
        for play in some_plays(FOUR_CARDS, 1, 7):
            self.follow(play)

    def follow(self, play):
        line = line_of(play)
        self.assertIs(type(line), list)
        deck, position, known, won = play.deck(), play.position(), {}, [0, 0]
        shares = plain_shares(deck, position, known)
        for card in line:
            self.assertIn(card, plain_legal(deck, position))
            side = plain_turn(position) % 2
            best = plain_shares(deck, position, known)[side]
            self.assertEqual(plain_shares_after(deck, position, card, known)[side], best)
            position = plain_after(deck, position, card)
            if not position[3]:
                won[position[2] % 2] += 1
        self.assertEqual(position[1], (0, 0, 0, 0))
        self.assertEqual(tuple(won), shares)

    def test_the_only_cards(self):
        self.assertEqual(line_of(Play((1, 4), (1, 2, 4, 8), -1, 2)), [2, 3, 0, 1])

    def test_the_end(self):
        self.assertEqual(line_of(walked((1, 4), (1, 2, 4, 8), 0, 1, 0, 4)), [])


class PlaysStayAsTheyAre(unittest.TestCase):
    def test_none_of_the_functions_changes_the_play(self):
        for play in some_plays([((2, 4), 2), ((3, 3), 2), ((1, 13), 3)], 2, 1):
            before = state(play)
            for given in (share(play, 0), share(play, 1), card_shares(play), best_cards(play), alike(play),
                          line_of(play)):
                self.assertIsNotNone(given)
            self.assertEqual(state(play), before)

    def test_what_is_returned_is_new(self):
        play = walked((2, 8), (0x9009, 0x0660, 0x6006, 0x0990), -1, 0, 1, 4)
        for function in (card_shares, best_cards, alike, line_of):
            expected = repr(function(play))
            given = function(play)
            if function is alike:
                given[0].append(77)
            given.clear()
            self.assertEqual(repr(function(play)), expected)


class Time(unittest.TestCase):
    def test_four_cards_are_analysed_in_moments(self):
        began = time.perf_counter()
        for deck, size in FOUR_CARDS:
            for hands in some_deals(deck, size, 4, 5):
                for trump in trumps_of(deck):
                    play = Play(deck, hands, trump, 1)
                    self.assertEqual(sum(share(play, side) for side in (0, 1)), 4)
                    self.assertEqual(max(card_shares(play).values()), share(play, 1))
                    self.assertEqual(len(line_of(play)), 16)
        # This takes about a second; going through all plays would take many minutes.
        self.assertLess(time.perf_counter() - began, 120)


if __name__ == "__main__":
    unittest.main()
