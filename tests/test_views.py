import time
import unittest
from math import comb, factorial

from finesse.errors import InvalidDeck, InvalidView, NoFit, NoSuchNumber, TooMany
from finesse.play import Play, play_at
from finesse.views import (
    check_view, count_fits, fit_of_number, fits, holding_chance, length_chances, view_of_play,
)

from tests.naive import members
from tests.naive_play import PLAY_DECKS, some_deals, state, suit, trumps_of, walked
from tests.naive_views import lowest, plain_fits, some_views

NOTHING = (0, 0, 0, 0)


class CheckView(unittest.TestCase):
    def test_views_that_are_accepted(self):
        for view in some_views(300, 1):
            self.assertIsNone(check_view(view))
        for view in (((1, 1), NOTHING, NOTHING, 0, NOTHING), ((1, 4), NOTHING, (1, 1, 1, 1), 15, (1, 1, 1, 1)),
                     ((4, 13), NOTHING, (13, 13, 13, 13), 2 ** 52 - 1, NOTHING),
                     ((1, 4), (15, 0, 0, 0), NOTHING, 0, NOTHING),
                     ((4, 1), NOTHING, (0, 4, 0, 0), 15, (15, 15, 15, 15))):
            self.assertIsNone(check_view(view))

    def test_each_fault_alone(self):
        right = [(2, 3), (1, 2, 4, 0), (0, 1, 0, 2), 56, (0, 1, 2, 3)]
        self.assertIsNone(check_view(tuple(right)))
        wrong = [
            (1, (1, 2, 4, 1)), (1, (1, 2, 6, 0)), (1, (7, 2, 0, 0)), (1, (1, 2, 4, 64)), (1, (2 ** 80, 0, 0, 0)),
            (1, (1, 2, 4, 8)), (1, (0, 0, 0, 32)), (1, (-1, 0, 0, 0)), (1, (0, 0, -64, 0)),
            (2, (1, 1, 1, 1)), (2, (4, 0, 0, 0)), (2, (0, 0, 0, 4)), (2, (-1, 1, 0, 0)), (2, (0, 0, 0, -1)),
            (2, (0, 4, 0, -1)), (2, (10 ** 30, 0, 0, 0)),
            (3, 57), (3, 60), (3, 120), (3, 24), (3, 0), (3, -8), (3, 2 ** 70),
            (4, (4, 0, 0, 0)), (4, (0, 0, 0, 7)), (4, (0, 2 ** 50, 0, 0)), (4, (0, 0, -1, 0)), (4, (-4, 0, 0, 0)),
        ]
        for place, part in wrong:
            view = tuple(right[:place] + [part] + right[place + 1:])
            with self.subTest(view=view):
                with self.assertRaises(InvalidView):
                    check_view(view)

    def test_the_deck_is_tested_first(self):
        for deck in ((0, 3), (5, 3), (2, 0), (2, 14), (-2, 3), (2, -3)):
            for known in ((1, 2, 4, 0), (1, 1, 1, 1), (2 ** 99, 0, 0, 0)):
                with self.assertRaises(InvalidDeck):
                    check_view((deck, known, (0, 1, 0, 2), 56, NOTHING))


class Fits(unittest.TestCase):
    def test_all_by_going_through_them(self):
        without = 0
        for view in some_views(600, 2):
            expected = plain_fits(view)
            without += not expected
            with self.subTest(view=view):
                self.assertEqual(count_fits(view), len(expected))
                self.assertEqual(fits(view), expected)
                for number in range(0, len(expected), 1 + len(expected) // 7):
                    self.assertEqual(fit_of_number(view, number), expected[number])
                for number in (-1, -10 ** 30, len(expected), len(expected) + 1, 10 ** 30):
                    with self.assertRaises(NoSuchNumber):
                        fit_of_number(view, number)
        self.assertGreater(without, 20)

    def test_every_number(self):
        for view in some_views(40, 3):
            expected = plain_fits(view)
            self.assertEqual([fit_of_number(view, number) for number in range(len(expected))], expected)

    def test_examples_of_the_interface(self):
        view = ((1, 4), (1, 0, 0, 0), (0, 1, 1, 1), 14, NOTHING)
        self.assertEqual(count_fits(view), 6)
        self.assertEqual(fits(view), [
            (1, 2, 4, 8), (1, 2, 8, 4), (1, 4, 2, 8), (1, 4, 8, 2), (1, 8, 2, 4), (1, 8, 4, 2)])

    def test_the_order_is_that_of_lists(self):
        view = ((1, 6), NOTHING, (0, 2, 0, 2), 0b11110, NOTHING)
        self.assertEqual([cards[1] for cards in fits(view)], [0b110, 0b1010, 0b10010, 0b1100, 0b10100, 0b11000])
        # The known cards do not count in the order.
        view = ((1, 6), (32, 1, 0, 0), (1, 1, 0, 0), 0b11000, NOTHING)
        self.assertEqual(fits(view), [(32 + 8, 1 + 16, 0, 0), (32 + 16, 1 + 8, 0, 0)])

    def test_a_count_of_0(self):
        view = ((2, 3), (1, 2, 4, 0), NOTHING, 56, (3, 3, 3, 3))
        self.assertEqual((count_fits(view), fits(view), fit_of_number(view, 0)), (1, [(1, 2, 4, 0)], (1, 2, 4, 0)))
        with self.assertRaises(NoSuchNumber):
            fit_of_number(view, 1)

    def test_without_any_fit(self):
        for view in (((2, 3), NOTHING, (1, 0, 0, 0), 7, (1, 0, 0, 0)),
                     ((1, 4), NOTHING, (1, 1, 1, 1), 15, (0, 0, 0, 1)),
                     ((2, 2), NOTHING, (2, 1, 0, 0), 13, (1, 1, 0, 0))):
            self.assertIsNone(check_view(view))
            self.assertEqual((count_fits(view), fits(view)), (0, []))
            for number in (0, -1, 1):
                with self.assertRaises(NoSuchNumber):
                    fit_of_number(view, number)

    def test_barred_suits(self):
        view = ((2, 2), NOTHING, (1, 1, 1, 1), 15, (1, 2, 0, 0))
        self.assertEqual(fits(view), [(4, 1, 2, 8), (4, 1, 8, 2), (4, 2, 1, 8), (4, 2, 8, 1),
                                      (8, 1, 2, 4), (8, 1, 4, 2), (8, 2, 1, 4), (8, 2, 4, 1)])

    def test_up_to_20000(self):
        # Each player has cards of one suit only.
        pool = (2 ** 10 - 1) * (1 + 2 ** 13 + 2 ** 26) + ((2 ** 6 - 1) << 39)
        view = ((4, 13), NOTHING, (1, 1, 1, 3), pool, (14, 13, 11, 7))
        self.assertEqual((count_fits(view), len(fits(view))), (20000, 20000))
        pool = (2 ** 13 - 1) + ((2 ** 11 - 1) << 13) + ((2 ** 8 - 1) << 26) + (3 << 39)
        view = ((4, 13), NOTHING, (1, 1, 4, 1), pool, (14, 13, 11, 7))
        self.assertEqual(count_fits(view), 20020)
        with self.assertRaises(TooMany):
            fits(view)

    def test_more_than_20000(self):
        for counts, cards, count in (((1, 2, 1, 1), 11, 11 * 10 * 9 * comb(8, 2)),
                                     ((0, 1, 2, 1), 26, 26 * 25 * comb(24, 2)),
                                     ((13, 13, 13, 13), 52, factorial(52) // factorial(13) ** 4)):
            view = ((4, 13), NOTHING, counts, 2 ** cards - 1, NOTHING)
            self.assertEqual(count_fits(view), count)
            with self.assertRaises(TooMany):
                fits(view)

    def test_lists_are_new(self):
        view = ((1, 4), (1, 0, 0, 0), (0, 1, 1, 1), 14, NOTHING)
        given = fits(view)
        given.clear()
        self.assertEqual(len(fits(view)), 6)
        self.assertEqual([type(fits(view)), type(fits(view)[0]), type(fit_of_number(view, 2))], [list, tuple, tuple])


class GreatViews(unittest.TestCase):
    def test_counts_without_bars(self):
        whole = 2 ** 52 - 1
        hidden = ((4, 13), (2 ** 13 - 1, 0, 2 ** 26 - 2 ** 13, 0), (0, 13, 0, 13), whole - 2 ** 26 + 1, NOTHING)
        self.assertEqual(count_fits(hidden), comb(26, 13))
        self.assertEqual(fit_of_number(hidden, 0)[1], 2 ** 39 - 2 ** 26)
        self.assertEqual(fit_of_number(hidden, comb(26, 13) - 1)[3], 2 ** 39 - 2 ** 26)
        everything = ((4, 13), NOTHING, (13, 13, 13, 13), whole, NOTHING)
        self.assertEqual(count_fits(everything), factorial(52) // factorial(13) ** 4)
        self.assertEqual(holding_chance(everything, 3, 17), (1, 4))
        self.assertEqual(length_chances(everything, 2, 1),
                         [lowest(comb(13, length) * comb(39, 13 - length), comb(52, 13)) for length in range(14)])

    def test_counts_with_bars(self):
        # Player 1 has none of the last suit, so its 13 cards are spread over the others and out of play.
        view = ((4, 13), NOTHING, (0, 10, 10, 10), 2 ** 52 - 1, (0, 8, 0, 0))
        self.assertEqual(count_fits(view), comb(39, 10) * comb(42, 10) * comb(32, 10))
        self.assertEqual(holding_chance(view, 1, 51), (0, 1))
        self.assertEqual(holding_chance(view, 1, 0), lowest(10, 39))
        self.assertEqual(holding_chance(view, 2, 51), lowest(10, 42))
        view = ((4, 13), NOTHING, (13, 13, 13, 13), 2 ** 52 - 1, (14, 13, 11, 7))
        self.assertEqual((count_fits(view), fits(view)), (1, [tuple((2 ** 13 - 1) << 13 * k for k in range(4))]))

    def test_few_fits_in_a_great_pool(self):
        # Player 3 may have the last card of each suit, and player 1 needs all others.
        began = time.perf_counter()
        view = ((4, 13), NOTHING, (0, 13, 0, 13), (2 ** 26 - 1) << 26, (0, 0, 0, 4))
        self.assertEqual((count_fits(view), len(fits(view))), (1, 1))
        view = ((4, 13), NOTHING, (0, 13, 0, 12), (2 ** 26 - 1) << 26, (0, 0, 0, 4))
        self.assertEqual((count_fits(view), len(fits(view))), (13 * 14, 182))
        view = ((4, 13), NOTHING, (13, 13, 13, 12), 2 ** 52 - 1, (14, 13, 11, 7))
        self.assertEqual((count_fits(view), len(fits(view))), (13, 13))
        self.assertLess(time.perf_counter() - began, 60)

    def test_numbers_of_great_views(self):
        for view in (((4, 13), NOTHING, (13, 13, 13, 13), 2 ** 52 - 1, (1, 2, 4, 8)),
                     ((4, 13), NOTHING, (8, 9, 10, 11), 2 ** 52 - 1, (8, 8, 1, 2)),
                     ((4, 13), (1, 2, 4, 8), (5, 0, 7, 9), 2 ** 52 - 16, (3, 0, 0, 9))):
            count = count_fits(view)
            before = None
            for number in (0, 1, 2, count // 7, count // 7 + 1, count // 2, count - 2, count - 1):
                fit = fit_of_number(view, number)
                key = [members(hand - known) for hand, known in zip(fit, view[1])]
                self.assertEqual([len(cards) for cards in key], list(view[2]))
                if before is not None:
                    self.assertLess(before, key)
                before = key
                for cards, barred in zip(key, view[4]):
                    self.assertFalse([card for card in cards if barred >> card // 13 & 1])
            for number in (-1, count, 10 ** 80):
                with self.assertRaises(NoSuchNumber):
                    fit_of_number(view, number)

    def test_a_few_thousand_fits_in_moments(self):
        began = time.perf_counter()
        for view in (((4, 13), NOTHING, (0, 7, 7, 0), (2 ** 14 - 1) << 20, NOTHING),
                     ((4, 13), NOTHING, (2, 2, 2, 2), (2 ** 8 - 1) << 22, (1, 0, 0, 0)),
                     ((1, 13), NOTHING, (2, 2, 3, 3), 2 ** 10 - 1, NOTHING)):
            count = count_fits(view)
            found = fits(view) if count <= 20000 else []
            self.assertEqual(len(found), count if count <= 20000 else 0)
            self.assertEqual(len(set(found)), len(found))
            for number in range(0, count, count // 40):
                fit_of_number(view, number)
            for player in range(4):
                holding_chance(view, player, 9)
                length_chances(view, player, 0)
        # This takes less than a second.
        self.assertLess(time.perf_counter() - began, 60)


class Chances(unittest.TestCase):
    def test_all_by_going_through_the_fits(self):
        for view in some_views(250, 4):
            expected = plain_fits(view)
            deck = view[0]
            for player in range(4):
                with self.subTest(view=view, player=player):
                    self.cards(view, expected, player, range(deck[0] * deck[1]))
                    for its_suit in range(deck[0]):
                        self.lengths(view, expected, player, its_suit)

    def cards(self, view, expected, player, cards):
        for card in cards:
            if expected:
                holding = sum(fit[player] >> card & 1 for fit in expected)
                self.assertEqual(holding_chance(view, player, card), lowest(holding, len(expected)))
            else:
                with self.assertRaises(NoFit):
                    holding_chance(view, player, card)

    def lengths(self, view, expected, player, its_suit):
        deck = view[0]
        if not expected:
            with self.assertRaises(NoFit):
                length_chances(view, player, its_suit)
            return
        counts = [len([card for card in members(fit[player]) if suit(deck, card) == its_suit]) for fit in expected]
        chances = [lowest(counts.count(length), len(expected)) for length in range(deck[1] + 1)]
        self.assertEqual(length_chances(view, player, its_suit), chances)

    def test_examples(self):
        view = ((1, 4), (1, 0, 0, 0), (0, 1, 1, 0), 14, NOTHING)
        self.assertEqual(holding_chance(view, 1, 3), (1, 3))
        self.assertEqual([holding_chance(view, player, 0) for player in range(4)], [(1, 1), (0, 1), (0, 1), (0, 1)])
        self.assertEqual(holding_chance(view, 3, 3), (0, 1))
        self.assertEqual(length_chances(view, 1, 0), [(0, 1), (1, 1), (0, 1), (0, 1), (0, 1)])

    def test_known_cards_count_in_the_length(self):
        view = ((2, 4), (3, 0, 0, 0), (1, 0, 2, 0), 0b00111100, NOTHING)
        self.assertEqual(length_chances(view, 0, 0), [(0, 1), (0, 1), (1, 2), (1, 2), (0, 1)])
        self.assertEqual(length_chances(view, 0, 1), [(1, 2), (1, 2), (0, 1), (0, 1), (0, 1)])
        self.assertEqual(length_chances(view, 2, 1), [(1, 6), (2, 3), (1, 6), (0, 1), (0, 1)])
        self.assertEqual(length_chances(view, 3, 1), [(1, 1), (0, 1), (0, 1), (0, 1), (0, 1)])

    def test_kinds(self):
        view = ((1, 4), (1, 0, 0, 0), (0, 1, 1, 0), 14, NOTHING)
        chances = length_chances(view, 1, 0)
        self.assertEqual([type(chances), type(chances[0]), type(holding_chance(view, 1, 3))], [list, tuple, tuple])
        self.assertEqual([type(part) for part in chances[0] + holding_chance(view, 1, 3)], [int] * 4)

    def test_no_fit_for_known_cards_either(self):
        view = ((2, 3), (0, 8, 0, 0), (1, 0, 0, 0), 7, (1, 0, 0, 0))
        for player, card in ((1, 3), (0, 3), (0, 0), (2, 5)):
            with self.assertRaises(NoFit):
                holding_chance(view, player, card)
        with self.assertRaises(NoFit):
            length_chances(view, 1, 1)


class ViewsOfPlays(unittest.TestCase):
    def plain_view(self, deck, tricks, hands, player, open_player):
        """The view of point 10.3; `tricks` has, for each trick, its cards with their players, seen or not."""
        known = tuple(hand if owner in (player, open_player) else 0 for owner, hand in enumerate(hands))
        barred = [0, 0, 0, 0]
        seen = [card for trick in tricks for _, card, is_seen in trick if is_seen]
        for trick in tricks:
            led = suit(deck, trick[0][1])
            for owner, card, is_seen in trick:
                if is_seen and suit(deck, card) != led and owner not in (player, open_player):
                    barred[owner] |= 2 ** led
        pool = [card for card in range(deck[0] * deck[1])
                if card not in seen and not any(hand >> card & 1 for hand in known)]
        counts = tuple(0 if owner in (player, open_player) else len(members(hand)) for owner, hand in enumerate(hands))
        return (deck, known, counts, sum(2 ** card for card in pool), tuple(barred))

    def compare_all(self, play, tricks):
        before = state(play)
        for player in range(4):
            for open_player in [-1] + [other for other in range(4) if other != player]:
                with self.subTest(position=play.position(), player=player, open_player=open_player):
                    view = view_of_play(play, player, open_player)
                    self.assertEqual(view, self.plain_view(play.deck(), tricks, play.hands(), player, open_player))
                    self.assertEqual([type(part) for part in view], [tuple, tuple, tuple, int, tuple])
                    self.assertIsNone(check_view(view))
                    self.assertGreater(count_fits(view), 0)
        self.assertEqual(state(play), before)

    def test_every_moment_of_some_plays(self):
        for deck, size in PLAY_DECKS:
            for step, hands in enumerate(some_deals(deck, size, 3, 3)):
                for trump in trumps_of(deck):
                    for cards in range(4 * size + 1):
                        play = walked(deck, hands, trump, step, step + 1, cards)
                        told = [(player, card, True) for player, card in play.history()]
                        self.compare_all(play, [told[k:k + 4] for k in range(0, len(told), 4)])

    def test_plays_that_begin_in_the_middle_of_a_trick(self):
        for deck, size in [((2, 4), 2), ((4, 2), 2), ((3, 4), 3), ((4, 13), 2)]:
            for step, hands in enumerate(some_deals(deck, size, 4, 9)):
                for begun in range(1, 8):
                    for more in range(4 * size - begun + 1):
                        self.begun_play(deck, hands, step, begun, more)

    def begun_play(self, deck, hands, step, begun, more):
        whole = walked(deck, hands, -1, step, step, begun + more)
        play = play_at(deck, walked(deck, hands, -1, step, step, begun).position())
        for _, card in whole.history()[begun:]:
            play.put(card)
        # The cards before the beginning are seen only if they lie in the present trick.
        in_trick = begun % 4
        first_seen = begun - in_trick if in_trick + more < 4 else begun
        told = [(player, card, k >= first_seen) for k, (player, card) in enumerate(whole.history())]
        self.compare_all(play, [told[k:k + 4] for k in range(0, len(told), 4)])

    def test_written_out(self):
        play = Play((3, 4), (0x003, 0x030, 0x00c, 0x300), -1, 0)
        self.assertEqual(view_of_play(play, 0, 2), ((3, 4), (3, 0, 12, 0), (0, 2, 0, 2), 0xff0, NOTHING))
        self.assertEqual(view_of_play(play, 1, -1), ((3, 4), (0, 0x30, 0, 0), (2, 0, 2, 2), 0xfcf, NOTHING))
        play.put(0)
        play.put(4)
        self.assertEqual(view_of_play(play, 0, 2), ((3, 4), (2, 0, 12, 0), (0, 1, 0, 2), 0xfe0, (0, 1, 0, 0)))
        self.assertEqual(view_of_play(play, 0, 1), ((3, 4), (2, 0x20, 0, 0), (0, 0, 2, 2), 0xfcc, NOTHING))
        play.put(2)
        play.put(8)
        self.assertEqual(view_of_play(play, 0, -1), ((3, 4), (2, 0, 0, 0), (0, 1, 1, 1), 0xee8, (0, 1, 0, 1)))
        play.put(3)
        self.assertEqual(view_of_play(play, 1, 3), ((3, 4), (0, 0x20, 0, 0x200), (1, 0, 0, 0), 0xcc2, NOTHING))

    def test_only_as_long_as_the_trick_is_the_present_one(self):
        # Players 1 and 2 have not followed in the trick that lies there; player 3 does not, either.
        play = play_at((4, 2), (-1, (2, 8, 32, 0xc0), 0, (0, 2, 4)))
        begun = ((4, 2), (2, 0, 0, 0), (0, 1, 1, 2), 0xe8, (0, 1, 1, 0))
        self.assertEqual(view_of_play(play, 0, -1), begun)
        play.put(6)
        self.assertEqual(view_of_play(play, 0, -1), ((4, 2), (2, 0, 0, 0), (0, 1, 1, 1), 0xbd, (0, 0, 0, 1)))
        play.put(1)
        self.assertEqual(view_of_play(play, 0, -1), ((4, 2), NOTHING, (0, 1, 1, 1), 0xbd, (0, 0, 0, 1)))
        play.take_back()
        play.take_back()
        self.assertEqual(view_of_play(play, 0, -1), begun)

    def test_the_end(self):
        play = walked((1, 4), (1, 2, 4, 8), -1, 2, 1, 4)
        view = view_of_play(play, 0, 2)
        self.assertEqual(view, ((1, 4), NOTHING, NOTHING, 0, NOTHING))
        self.assertEqual((count_fits(view), fits(view)), (1, [NOTHING]))

    def test_the_real_deal_is_a_fit(self):
        for step, hands in enumerate(some_deals((3, 4), 3, 6, 3)):
            for cards in range(12):
                play = walked((3, 4), hands, 0, step, step, cards)
                view = view_of_play(play, 0, 2)
                self.assertIn(play.hands(), fits(view))


if __name__ == "__main__":
    unittest.main()
