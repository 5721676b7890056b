import unittest
from itertools import permutations

from finesse.errors import IllegalCard, InvalidDeal, InvalidDeck, InvalidTrump, NothingPut, PlayOver
from finesse.play import Play, play_at, winner_of

from tests.naive_play import (
    PLAY_DECKS, plain_after, plain_left, plain_legal, plain_turn, plain_winner, some_deals, state, trumps_of, walked,
)


class WinnerOf(unittest.TestCase):
    def test_all_tricks_of_small_decks(self):
        for deck in ((1, 4), (2, 2), (4, 1), (3, 2), (2, 3)):
            for count in range(1, 5):
                for cards in permutations(range(deck[0] * deck[1]), count):
                    for trump in trumps_of(deck):
                        self.compare(deck, trump, list(cards))

    def compare(self, deck, trump, cards):
        with self.subTest(deck=deck, trump=trump, cards=cards):
            for leader in range(4):
                winner = winner_of(deck, trump, leader, cards)
                self.assertEqual(winner, plain_winner(deck, trump, leader, cards))

    def test_written_out(self):
        self.assertEqual(winner_of((2, 3), 1, 2, [0, 2, 3, 1]), 0)
        self.assertEqual(winner_of((4, 13), -1, 1, [5, 51, 6, 50]), 3)
        self.assertEqual(winner_of((4, 13), 3, 1, [5, 51, 6, 50]), 2)
        self.assertEqual(winner_of((4, 13), 3, 3, [39, 0, 1, 40]), 2)
        self.assertEqual(winner_of((4, 13), 0, 3, [7]), 3)

    def test_the_list_stays_as_it_was(self):
        cards = [3, 1, 2, 0]
        winner_of((1, 4), -1, 0, cards)
        self.assertEqual(cards, [3, 1, 2, 0])


class NewPlays(unittest.TestCase):
    def test_the_beginning(self):
        play = Play((2, 4), (3, 12, 48, 192), 1, 2)
        self.assertEqual(state(play), (
            (2, 4), 1, (3, 12, 48, 192), 2, [], 2, [4, 5], [], 0, 0, 2, False, (1, (3, 12, 48, 192), 2, ())))

    def test_kinds_of_the_values(self):
        play = walked((2, 4), (3, 12, 48, 192), 1, 2, 1, 3)
        for given, kind in ((play.deck(), tuple), (play.trump(), int), (play.hands(), tuple), (play.leader(), int),
                            (play.led(), list), (play.turn(), int), (play.legal(), list), (play.history(), list),
                            (play.history()[0], tuple), (play.tricks(0), int), (play.left(), int),
                            (play.is_over(), bool), (play.position(), tuple), (play.position()[3], tuple),
                            (play.copy(), Play), (play_at((2, 4), play.position()), Play)):
            self.assertIs(type(given), kind)
        self.assertIsNone(play.put(play.legal()[0]))
        self.assertIsNone(play.take_back())

    def test_the_deck_is_tested_first(self):
        for deck in ((0, 4), (5, 4), (1, 0), (1, 14), (-1, 4)):
            for hands, trump in (((1, 2, 4, 8), -1), ((1, 1, 4, 8), 9), ((1, 2, 4, 8), 9)):
                with self.subTest(deck=deck, hands=hands, trump=trump):
                    with self.assertRaises(InvalidDeck):
                        Play(deck, hands, trump, 0)

    def test_then_the_deal(self):
        for hands in ((1, 1, 4, 8), (0, 0, 0, 0), (3, 4, 8, 16), (1, 2, 4, 2 ** 8), (1, 2, 4, 0)):
            for trump in (-1, 0, 1, 2, -2):
                with self.subTest(hands=hands, trump=trump):
                    with self.assertRaises(InvalidDeal):
                        Play((2, 4), hands, trump, 0)

    def test_then_the_trump(self):
        for suits in range(1, 5):
            for trump in (-10 ** 30, -3, -2, suits, suits + 1, 4, 10 ** 30):
                with self.subTest(suits=suits, trump=trump):
                    with self.assertRaises(InvalidTrump):
                        Play((suits, 4), (1, 2, 4, 8), trump, 0)

    def test_every_trump_that_there_is(self):
        for suits in range(1, 5):
            for trump in range(-1, suits):
                self.assertEqual(Play((suits, 4), (1, 2, 4, 8), trump, 3).trump(), trump)


class WalkedPlays(unittest.TestCase):
    def test_some_plays_to_the_end(self):
        for deck, size in PLAY_DECKS:
            for step, hands in enumerate(some_deals(deck, size, 6)):
                for trump in trumps_of(deck):
                    with self.subTest(deck=deck, hands=hands, trump=trump):
                        self.walk(deck, hands, trump, (step + trump) % 4, step)

    def test_a_great_deal(self):
        hands = tuple(sum(2 ** (4 * k + player) for k in range(13)) for player in range(4))
        for trump in range(-1, 4):
            self.walk((4, 13), hands, trump, trump % 4, 5)

    def walk(self, deck, hands, trump, leader, step):
        """Put cards to the end and take all of them back; compare each state with the plain words."""
        play = Play(deck, hands, trump, leader)
        position, history, won = (trump, hands, leader, ()), [], [0, 0]
        before = []
        while plain_left(position):
            self.compare(play, deck, position, history, won)
            before.append(state(play))
            legal = plain_legal(deck, position)
            card = legal[(step * (len(history) + 1)) % len(legal)]
            history.append((plain_turn(position), card))
            play.put(card)
            position = plain_after(deck, position, card)
            if not position[3]:
                won[position[2] % 2] += 1
        self.compare(play, deck, position, history, won)
        while before:
            play.take_back()
            self.assertEqual(state(play), before.pop())
        with self.assertRaises(NothingPut):
            play.take_back()

    def compare(self, play, deck, position, history, won):
        trump, hands, leader, led = position
        self.assertEqual((play.deck(), play.trump(), play.hands(), play.leader()), (deck, trump, hands, leader))
        self.assertEqual((play.led(), play.legal()), (list(led), plain_legal(deck, position)))
        self.assertEqual((play.history(), [play.tricks(0), play.tricks(1)]), (history, won))
        self.assertEqual((play.left(), play.position()), (plain_left(position), position))
        self.assertIs(play.is_over(), plain_left(position) == 0)
        if not play.is_over():
            self.assertEqual(play.turn(), plain_turn(position))

    def test_every_play_of_some_deals(self):
        for deck, hands in (((1, 4), (2, 8, 1, 4)), ((2, 4), (9, 36, 66, 144)), ((4, 2), (3, 12, 48, 192))):
            for trump in trumps_of(deck):
                with self.subTest(deck=deck, hands=hands, trump=trump):
                    self.every_play(Play(deck, hands, trump, 1), (trump, hands, 1, ()), deck)

    def every_play(self, play, position, deck):
        self.assertEqual(play.position(), position)
        self.assertEqual(play.legal(), plain_legal(deck, position))
        self.assertEqual(play.left(), plain_left(position))
        for card in plain_legal(deck, position):
            before = state(play)
            play.put(card)
            self.every_play(play, plain_after(deck, position, card), deck)
            play.take_back()
            self.assertEqual(state(play), before)

    def test_example_of_the_interface(self):
        play = Play((1, 4), (1, 2, 4, 8), -1, 0)
        for card in (0, 1, 2, 3):
            play.put(card)
        self.assertEqual((play.tricks(0), play.tricks(1)), (0, 1))


class Following(unittest.TestCase):
    def test_the_suit_that_was_led(self):
        play = Play((2, 4), (0b00010001, 0b00100010, 0b01000100, 0b10001000), 1, 3)
        self.assertEqual(play.legal(), [3, 7])
        play.put(7)
        self.assertEqual(play.legal(), [4])
        play.put(4)
        self.assertEqual(play.legal(), [5])

    def test_without_the_suit_every_card(self):
        play = Play((2, 4), (0b00000011, 0b00001100, 0b00110000, 0b11000000), 1, 0)
        play.put(1)
        self.assertEqual(play.legal(), [2, 3])
        play.put(2)
        self.assertEqual(play.legal(), [4, 5])
        play.put(4)
        self.assertEqual(play.legal(), [6, 7])
        play.put(7)
        self.assertEqual((play.leader(), play.tricks(1)), (3, 1))


class CardsThatMayNotBePut(unittest.TestCase):
    def test_they_are_refused_and_change_nothing(self):
        for deck, size in PLAY_DECKS[:10]:
            for step, hands in enumerate(some_deals(deck, size, 3)):
                for cards in range(4 * size):
                    play = walked(deck, hands, step % deck[0], step, step, cards)
                    self.refuse_all(play, deck)

    def refuse_all(self, play, deck):
        before = state(play)
        total = deck[0] * deck[1]
        for card in list(range(-3, total + 3)) + [10 ** 30, -10 ** 30]:
            if card not in play.legal():
                with self.subTest(position=play.position(), card=card):
                    with self.assertRaises(IllegalCard):
                        play.put(card)
                    self.assertEqual(state(play), before)

    def test_after_the_end_each_card_is_too_late(self):
        play = walked((1, 4), (1, 2, 4, 8), -1, 0, 1, 4)
        before = state(play)
        for card in (0, 3, -1, 4, 77, 10 ** 30):
            with self.assertRaises(PlayOver):
                play.put(card)
        with self.assertRaises(PlayOver):
            play.turn()
        self.assertEqual(state(play), before)
        self.assertEqual((play.legal(), play.left(), play.is_over()), ([], 0, True))
        self.assertEqual(play.position(), (-1, (0, 0, 0, 0), 3, ()))


class TakingBack(unittest.TestCase):
    def test_nothing_at_the_beginning(self):
        play = Play((1, 4), (1, 2, 4, 8), 0, 2)
        before = state(play)
        with self.assertRaises(NothingPut):
            play.take_back()
        self.assertEqual(state(play), before)

    def test_another_card_instead(self):
        play = Play((2, 4), (0b00010001, 0b00100010, 0b01000100, 0b10001000), -1, 3)
        for card in (3, 0, 1, 2):
            play.put(card)
        self.assertEqual((play.leader(), play.tricks(1), play.left()), (3, 1, 1))
        for _ in range(4):
            play.take_back()
        for card in (7, 4, 5):
            play.put(card)
        self.assertEqual((play.led(), play.turn(), play.tricks(1), play.left()), ([7, 4, 5], 2, 0, 2))
        self.assertEqual(play.hands(), (0b00000001, 0b00000010, 0b01000100, 0b00001000))
        self.assertEqual(play.history(), [(3, 7), (0, 4), (1, 5)])

    def test_back_over_the_end_of_a_trick(self):
        play = walked((1, 8), (129, 66, 36, 24), -1, 1, 2, 5)
        while play.history():
            before = state(play)
            card = play.history()[-1][1]
            play.take_back()
            play.put(card)
            self.assertEqual(state(play), before)
            play.take_back()
        self.assertEqual(state(play), state(Play((1, 8), (129, 66, 36, 24), -1, 1)))


class Copies(unittest.TestCase):
    def test_same_state_at_every_place(self):
        for deck, size in PLAY_DECKS:
            for step, hands in enumerate(some_deals(deck, size, 2)):
                for cards in range(4 * size + 1):
                    play = walked(deck, hands, -1, step, step, cards)
                    self.assertEqual(state(play.copy()), state(play))

    def test_neither_changes_with_the_other_one(self):
        play = walked((2, 4), (9, 36, 66, 144), 1, 0, 1, 5)
        before = state(play)
        twin = play.copy()
        twin.put(twin.legal()[0])
        self.assertEqual(state(play), before)
        twin.take_back()
        twin.take_back()
        self.assertEqual(state(play), before)
        twin = play.copy()
        play.put(play.legal()[0])
        self.assertEqual(state(twin), before)
        play.take_back()
        play.take_back()
        self.assertEqual(state(twin), before)

    def test_a_copy_can_be_taken_back_to_the_beginning(self):
        twin = walked((2, 4), (9, 36, 66, 144), 1, 3, 1, 8).copy()
        for _ in range(8):
            twin.take_back()
        self.assertEqual(state(twin), state(Play((2, 4), (9, 36, 66, 144), 1, 3)))
        with self.assertRaises(NothingPut):
            twin.take_back()

    def test_copies_of_plays_that_begin_later(self):
        for cards in range(9):
            position = walked((2, 4), (9, 36, 66, 144), 1, 3, 1, cards).position()
            play = play_at((2, 4), position)
            self.assertEqual(state(play.copy()), state(play))
            with self.assertRaises(NothingPut):
                play.copy().take_back()
            if cards < 7:
                play.put(play.legal()[0])
                play.put(play.legal()[-1])
                self.assertEqual(state(play.copy()), state(play))
                twin = play.copy()
                twin.take_back()
                twin.take_back()
                self.assertEqual(twin.position(), position)


class PlaysFromPositions(unittest.TestCase):
    def test_they_go_on_as_the_play_does(self):
        for deck, size in PLAY_DECKS:
            for step, hands in enumerate(some_deals(deck, size, 2, 3)):
                for trump in trumps_of(deck):
                    for cards in range(4 * size + 1):
                        self.go_on(walked(deck, hands, trump, step, step + 1, cards))

    def go_on(self, play):
        later = play_at(play.deck(), play.position())
        won, cards = [play.tricks(0), play.tricks(1)], len(play.history())
        while True:
            self.assertEqual(later.history(), play.history()[cards:])
            self.assertEqual([later.tricks(side) + won[side] for side in (0, 1)], [play.tricks(0), play.tricks(1)])
            for method in ("deck", "trump", "hands", "leader", "led", "legal", "left", "is_over", "position"):
                self.assertEqual(getattr(later, method)(), getattr(play, method)())
            if play.is_over():
                break
            card = play.legal()[-1]
            play.put(card)
            later.put(card)
        for _ in range(len(play.history()) - cards):
            later.take_back()
        with self.assertRaises(NothingPut):
            later.take_back()

    def test_a_trick_that_is_begun(self):
        play = play_at((2, 4), (1, (2, 12, 32, 192), 2, (4, 7, 0)))
        self.assertEqual((play.led(), play.turn(), play.legal(), play.left()), ([4, 7, 0], 1, [2, 3], 2))
        self.assertEqual((play.history(), play.tricks(0), play.tricks(1)), ([], 0, 0))
        play.put(3)
        self.assertEqual((play.history(), play.tricks(0), play.tricks(1)), ([(1, 3)], 0, 1))
        self.assertEqual(play.position(), (1, (2, 4, 32, 192), 3, ()))
        play.take_back()
        self.assertEqual(play.position(), (1, (2, 12, 32, 192), 2, (4, 7, 0)))

    def test_the_end(self):
        play = play_at((1, 4), (0, (0, 0, 0, 0), 3, ()))
        self.assertEqual(state(play), (
            (1, 4), 0, (0, 0, 0, 0), 3, [], None, [], [], 0, 0, 0, True, (0, (0, 0, 0, 0), 3, ())))
        with self.assertRaises(PlayOver):
            play.turn()
        with self.assertRaises(PlayOver):
            play.put(0)
        with self.assertRaises(NothingPut):
            play.take_back()

    def test_two_plays_from_one_position(self):
        position = (1, (2, 12, 32, 192), 2, (4, 7, 0))
        first, second = play_at((2, 4), position), play_at((2, 4), position)
        first.put(3)
        self.assertEqual(second.position(), position)
        self.assertEqual(second.history(), [])


class OwnLists(unittest.TestCase):
    def test_lists_that_are_given_out_are_new(self):
        play = walked((2, 4), (9, 36, 66, 144), 1, 0, 1, 6)
        before = state(play)
        for given in (play.led(), play.legal(), play.history()):
            given.append(3)
            del given[0]
            given.reverse()
        self.assertEqual(state(play), before)

    def test_lists_from_before_do_not_change(self):
        play = walked((2, 4), (9, 36, 66, 144), 1, 0, 1, 5)
        led, legal, history = play.led(), play.legal(), play.history()
        copies = (list(led), list(legal), list(history))
        play.put(legal[0])
        self.assertEqual((led, legal, history), copies)


if __name__ == "__main__":
    unittest.main()
