import unittest

from finesse.chances import card_chances, share_chances
from finesse.errors import PlayOver, TooMany
from finesse.forced import share
from finesse.play import Play, play_at
from finesse.views import count_fits, view_of_play

from tests.naive_play import (
    plain_left, plain_legal, plain_shares, plain_shares_after, plain_turn, some_deals, state, trumps_of, walked,
)
from tests.naive_views import lowest, plain_fits

DECKS = [((1, 4), 1), ((1, 6), 1), ((2, 3), 1), ((2, 2), 1), ((4, 2), 1), ((2, 4), 2), ((4, 2), 2), ((3, 3), 2),
         ((1, 9), 2), ((3, 4), 3)]


def some_plays(every=1):
    """Plays in all their moments but the end, with each open player, and few fits."""
    for deck, size in DECKS:
        for step, hands in enumerate(some_deals(deck, size, 3, 5)):
            trump = trumps_of(deck)[step % (deck[0] + 1)]
            for cards in range(0, 4 * size, every):
                yield walked(deck, hands, trump, step + cards, step + 1, cards)


def open_players(play):
    return [-1] + [player for player in range(4) if player != play.turn()]


def positions_of_fits(play, open_player):
    """All positions that the play may be in for the player who has the turn."""
    trump, _, leader, led = play.position()
    found = plain_fits(view_of_play(play, play.turn(), open_player))
    return [(trump, hands, leader, led) for hands in found]


class ShareChances(unittest.TestCase):
    def test_all_by_going_through_the_fits(self):
        compared = 0
        for play in some_plays():
            before = state(play)
            for open_player in open_players(play):
                if count_fits(view_of_play(play, play.turn(), open_player)) > 400:
                    continue
                with self.subTest(position=play.position(), open_player=open_player):
                    positions = positions_of_fits(play, open_player)
                    side = play.turn() % 2
                    known = {}
                    shares = [plain_shares(play.deck(), position, known)[side] for position in positions]
                    expected = [lowest(shares.count(k), len(shares)) for k in range(plain_left(play.position()) + 1)]
                    self.assertEqual(share_chances(play, open_player), expected)
                    self.assertEqual(state(play), before)
                    compared += 1
        self.assertGreater(compared, 250)

    def test_written_out(self):
        # The king wins if the partner has the ace.
        play = Play((1, 4), (4, 1, 2, 8), -1, 0)
        self.assertEqual(share_chances(play, -1), [(2, 3), (1, 3)])
        self.assertEqual(share_chances(play, 2), [(1, 1), (0, 1)])
        self.assertEqual(share_chances(play, 3), [(1, 1), (0, 1)])
        self.assertEqual(share_chances(play, 1), [(1, 2), (1, 2)])

    def test_the_trick_that_has_been_begun_counts(self):
        play = Play((1, 4), (4, 1, 2, 8), -1, 0)
        play.put(2)
        self.assertEqual(share_chances(play, -1), [(1, 2), (1, 2)])
        play.put(0)
        # Player 2 sees that only player 3 can have the ace, or that it is the own card.
        self.assertEqual(share_chances(play, -1), [(1, 1), (0, 1)])
        play.put(1)
        self.assertEqual(share_chances(play, -1), [(0, 1), (1, 1)])

    def test_what_has_been_seen_counts(self):
        # The king wins the trick if player 1 has the ace, which is so in one of three fits
        # if this player has followed suit, and in none if not.
        followed = play_at((2, 4), (-1, (0b00100001, 0b10000010, 0b00010100, 0b01001000), 0, ()))
        followed.put(0)
        followed.put(1)
        self.assertEqual(share_chances(followed, 0), [(2, 3), (1, 3), (0, 1)])
        shown_out = play_at((2, 4), (-1, (0b00100001, 0b11000000, 0b00010100, 0b00001010), 0, ()))
        shown_out.put(0)
        shown_out.put(6)
        self.assertEqual(share_chances(shown_out, 0), [(1, 1), (0, 1), (0, 1)])

    def test_kinds_and_new_lists(self):
        play = Play((1, 4), (4, 1, 2, 8), -1, 0)
        chances = share_chances(play, -1)
        self.assertEqual([type(chances), type(chances[0]), type(chances[0][0])], [list, tuple, int])
        chances.clear()
        self.assertEqual(share_chances(play, -1), [(2, 3), (1, 3)])

    def test_four_cards_in_each_hand(self):
        for step, hands in enumerate(some_deals((4, 4), 4, 3, 3)):
            play = Play((4, 4), hands, step - 1, step)
            for open_player in ((step + 2) % 4, (step + 1) % 4):
                chances = share_chances(play, open_player)
                self.assertEqual(len(chances), 5)
                self.assertEqual(sum(part * 70 // whole for part, whole in chances), 70)
                self.assertGreater(chances[share(play, step % 2)][0], 0)


class CardChances(unittest.TestCase):
    def test_all_by_going_through_the_fits(self):
        compared = 0
        for play in some_plays():
            before = state(play)
            deck, left = play.deck(), play.left()
            for open_player in open_players(play):
                if count_fits(view_of_play(play, play.turn(), open_player)) > 200:
                    continue
                positions = positions_of_fits(play, open_player)
                side = plain_turn(play.position()) % 2
                known = {}
                shares = {card: [plain_shares_after(deck, position, card, known)[side] for position in positions]
                          for card in plain_legal(deck, play.position())}
                for goal in (-5, -1, 0, 1, left // 2 + 1, left, left + 1, 10 ** 20):
                    with self.subTest(position=play.position(), open_player=open_player, goal=goal):
                        expected = {card: lowest(sum(tricks >= goal for tricks in shares[card]), len(positions))
                                    for card in shares}
                        self.assertEqual(card_chances(play, open_player, goal), expected)
                        compared += 1
            self.assertEqual(state(play), before)
        self.assertGreater(compared, 1500)

    def test_a_finesse(self):
        # The partner has the ace and the queen: does the player before the partner have the king?
        play = Play((1, 8), (0b00000011, 0b00001100, 0b10100000, 0b01010000), -1, 0)
        self.assertEqual(share_chances(play, 2), [(0, 1), (1, 2), (1, 2)])
        self.assertEqual(card_chances(play, 2, 2), {0: (1, 2), 1: (1, 2)})
        play.put(0)
        play.put(2)
        # Of the cards 3, 4 and 6, the player before the partner has one.
        self.assertEqual(share_chances(play, 0), [(0, 1), (2, 3), (1, 3)])
        self.assertEqual(card_chances(play, 0, 2), {5: (1, 3), 7: (0, 1)})
        self.assertEqual(card_chances(play, 0, 1), {5: (1, 1), 7: (1, 1)})
        self.assertEqual(card_chances(play, 0, 3), {5: (0, 1), 7: (0, 1)})

    def test_goals_of_0_and_less_and_too_great_ones(self):
        play = Play((1, 4), (4, 1, 2, 8), -1, 0)
        for goal, chance in ((-10 ** 20, (1, 1)), (-1, (1, 1)), (0, (1, 1)), (1, (1, 3)), (2, (0, 1)), (10 ** 20, (0, 1))):
            self.assertEqual(card_chances(play, -1, goal), {2: chance})

    def test_the_cards_ascend_and_the_dicts_are_new(self):
        play = Play((1, 8), (0b00000011, 0b00001100, 0b10100000, 0b01010000), -1, 0)
        chances = card_chances(play, -1, 1)
        self.assertEqual(sorted(chances), [0, 1])
        self.assertEqual([type(chances), type(chances[0]), type(chances[0][0])], [dict, tuple, int])
        kept = dict(chances)
        chances.clear()
        self.assertEqual(card_chances(play, -1, 1), kept)


class Errors(unittest.TestCase):
    def test_a_play_that_is_over(self):
        for play in (walked((1, 4), (1, 2, 4, 8), -1, 2, 1, 4), walked((4, 13), (1, 2, 4, 8), 3, 0, 1, 4),
                     play_at((2, 3), (1, (0, 0, 0, 0), 2, ()))):
            for open_player in (-1, 0, 1, 2, 3):
                with self.assertRaises(PlayOver):
                    share_chances(play, open_player)
                for goal in (-1, 0, 1, 5):
                    with self.assertRaises(PlayOver):
                        card_chances(play, open_player, goal)

    def test_up_to_20000_fits(self):
        # The other three players get 3 of 27 cards, in any order.
        play = Play((4, 7), (1 << 27, 1, 2, 4), 3, 0)
        self.assertEqual(count_fits(view_of_play(play, 0, -1)), 17550)
        self.assertEqual(share_chances(play, -1), [(0, 1), (1, 1)])
        self.assertEqual(card_chances(play, -1, 1), {27: (1, 1)})

    def test_more_than_20000_fits(self):
        play = Play((3, 10), (1 << 29, 1, 2, 4), 2, 0)
        self.assertEqual(count_fits(view_of_play(play, 0, -1)), 21924)
        hands = tuple((2 ** 13 - 1) << 13 * player for player in range(4))
        for great in (play, Play((4, 13), hands, -1, 1)):
            before = state(great)
            with self.assertRaises(TooMany):
                share_chances(great, -1)
            for goal in (-1, 0, 14):
                with self.assertRaises(TooMany):
                    card_chances(great, -1, goal)
            self.assertEqual(state(great), before)
        # With an open hand there are fewer.
        self.assertEqual(share_chances(play, 2), [(0, 1), (1, 1)])


class Agreement(unittest.TestCase):
    def test_the_best_card_wins_as_often_as_the_share_at_most(self):
        for play in some_plays(3):
            for open_player in open_players(play)[1:]:
                if count_fits(view_of_play(play, play.turn(), open_player)) > 100:
                    continue
                shares = share_chances(play, open_player)
                for goal in range(play.left() + 2):
                    at_least = sum(part / whole for part, whole in shares[goal:])
                    for part, whole in card_chances(play, open_player, goal).values():
                        self.assertLessEqual(part / whole, at_least + 1e-9)


if __name__ == "__main__":
    unittest.main()
