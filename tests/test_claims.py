import time
import unittest

from finesse.claims import claim_holds, least_tricks, most_tricks
from finesse.forced import share
from finesse.play import Play, play_at

from tests.naive_play import (
    PLAY_DECKS, plain_after, plain_left, plain_legal, some_deals, state, trumps_of, walked,
)

SMALL_DECKS = [(deck, size) for deck, size in PLAY_DECKS if size < 3] + [((3, 4), 3), ((4, 3), 3)]


def plain_extremes(deck, position, side, known):
    """The least and the greatest number of tricks of a side in any play to the end."""
    if position not in known:
        found = []
        for card in plain_legal(deck, position):
            after = plain_after(deck, position, card)
            won = int(not after[3] and after[2] % 2 == side)
            found.append([won + tricks for tricks in plain_extremes(deck, after, side, known)])
        known[position] = (min(low for low, _ in found), max(high for _, high in found)) if found else (0, 0)
    return known[position]


def some_plays():
    for deck, size in SMALL_DECKS:
        for step, hands in enumerate(some_deals(deck, size, 10, 7)):
            for trump in trumps_of(deck)[::2]:
                for cards in range(0, 4 * size + 1, 1 if size < 3 else 3):
                    yield walked(deck, hands, trump, (step + cards) % 4, step + 1, cards)


class Claims(unittest.TestCase):
    def test_all_by_going_through_all_plays(self):
        differing = 0
        for play in some_plays():
            before = state(play)
            for side in (0, 1):
                low, high = plain_extremes(play.deck(), play.position(), side, {})
                differing += low < high
                with self.subTest(position=play.position(), side=side):
                    self.assertEqual(least_tricks(play, side), low)
                    self.assertEqual(most_tricks(play, side), high)
                    for count in list(range(-2, plain_left(play.position()) + 3)) + [10 ** 20, -10 ** 20]:
                        self.assertIs(claim_holds(play, side, count), count <= low)
                    self.assertEqual(state(play), before)
        self.assertGreater(differing, 200)

    def test_example_of_the_interface(self):
        self.assertIs(claim_holds(Play((1, 4), (8, 4, 2, 1), -1, 0), 0, 1), True)

    def test_written_out(self):
        # The ace and the king of the only suit, and low cards for the partner.
        play = Play((1, 8), (0b11000000, 0b110000, 0b1100, 0b11), -1, 0)
        self.assertEqual((least_tricks(play, 0), most_tricks(play, 0), least_tricks(play, 1), most_tricks(play, 1)), (2, 2, 0, 0))
        # The ace and a low card: it depends on who puts what.
        play = Play((1, 8), (0b10000001, 0b110000, 0b1100, 0b1000010), -1, 0)
        self.assertEqual((least_tricks(play, 0), most_tricks(play, 0), least_tricks(play, 1), most_tricks(play, 1)), (1, 1, 1, 1))
        play = Play((1, 8), (0b10000001, 0b100010, 0b1001000, 0b10100), -1, 0)
        self.assertEqual((least_tricks(play, 0), most_tricks(play, 0), least_tricks(play, 1), most_tricks(play, 1)), (1, 2, 0, 1))

    def test_the_trick_that_has_been_begun_counts(self):
        play = walked((1, 4), (1, 2, 4, 8), -1, 3, 0, 3)
        self.assertEqual((least_tricks(play, 1), most_tricks(play, 0)), (1, 0))
        play.put(2)
        for side in (0, 1):
            self.assertEqual((least_tricks(play, side), most_tricks(play, side)), (0, 0))
            self.assertIs(claim_holds(play, side, 0), True)
            self.assertIs(claim_holds(play, side, 1), False)

    def test_the_share_is_between_them(self):
        for play in some_plays():
            for side in (0, 1):
                self.assertLessEqual(least_tricks(play, side), share(play, side))
                self.assertLessEqual(share(play, side), most_tricks(play, side))

    def test_a_play_that_begins_in_the_middle_of_a_trick(self):
        # Player 2 has the two highest trumps, and cannot follow suit.
        play = play_at((2, 4), (1, (0b10001, 0b100010, 0b11000000, 0b1000), 3, (2,)))
        self.assertEqual((play.turn(), least_tricks(play, 0), most_tricks(play, 0)), (0, 2, 2))
        self.assertEqual((least_tricks(play, 1), most_tricks(play, 1)), (0, 0))
        # Without trumps, player 1 wins the trick with the ace, or leaves it to player 3.
        play = play_at((2, 4), (-1, (0b10001, 0b1010, 0b11000000, 0b100000), 3, (2,)))
        self.assertEqual((least_tricks(play, 1), most_tricks(play, 1)), (1, 2))

    def test_four_cards_in_each_hand_in_moments(self):
        began = time.perf_counter()
        for deck in ((4, 4), (2, 8), (4, 13)):
            for step, hands in enumerate(some_deals(deck, 4, 4, 3)):
                play = Play(deck, hands, step % (deck[0] + 1) - 1, step)
                for side in (0, 1):
                    self.assertEqual(least_tricks(play, side) + most_tricks(play, 1 - side), 4)
                    self.assertIs(claim_holds(play, side, least_tricks(play, side) + 1), False)
        # This takes about a second.
        self.assertLess(time.perf_counter() - began, 60)


if __name__ == "__main__":
    unittest.main()
