import unittest
from itertools import permutations, product

from finesse.cards import (
    card_of, card_text, cards_of, check_deck, count_cards, mask_of, of_suit,
    rank_of, read_card, suit_of,
)
from finesse.errors import InvalidDeck, InvalidText

from tests.naive import RANKS, SUITS, all_decks, cards_in, members, some_hands


class CheckDeck(unittest.TestCase):
    def test_pairs_around_the_limits(self):
        for suits, ranks in product(range(-2, 8), range(-2, 17)):
            with self.subTest(suits=suits, ranks=ranks):
                if suits in (1, 2, 3, 4) and 1 <= ranks <= 13:
                    self.assertIsNone(check_deck((suits, ranks)))
                else:
                    with self.assertRaises(InvalidDeck):
                        check_deck((suits, ranks))

    def test_far_beyond_the_limits(self):
        for deck in ((10 ** 6, 5), (2, 10 ** 6), (-10 ** 6, 3), (3, -10 ** 6), (10 ** 5000, 10 ** 5000)):
            with self.assertRaises(InvalidDeck):
                check_deck(deck)


class SuitsAndRanks(unittest.TestCase):
    def test_every_card_of_every_deck(self):
        for suits, ranks in all_decks():
            card = 0
            for suit, rank in product(range(suits), range(ranks)):
                with self.subTest(deck=(suits, ranks), card=card):
                    self.assertEqual(suit_of((suits, ranks), card), suit)
                    self.assertEqual(rank_of((suits, ranks), card), rank)
                    self.assertEqual(card_of((suits, ranks), suit, rank), card)
                card += 1
            self.assertEqual(card, suits * ranks)

    def test_written_out(self):
        self.assertEqual([suit_of((3, 2), card) for card in range(6)], [0, 0, 1, 1, 2, 2])
        self.assertEqual([rank_of((3, 2), card) for card in range(6)], [0, 1, 0, 1, 0, 1])
        self.assertEqual(card_of((4, 13), 3, 12), 51)
        self.assertEqual(card_of((2, 5), 1, 0), 5)


class TextsOfCards(unittest.TestCase):
    def test_every_card_of_every_deck(self):
        for deck in all_decks():
            signs = RANKS[13 - deck[1]:]
            texts = [letter + sign for letter in SUITS[:deck[0]] for sign in signs]
            with self.subTest(deck=deck):
                self.assertEqual([card_text(deck, card) for card in cards_in(deck)], texts)
                self.assertEqual([read_card(deck, text) for text in texts], cards_in(deck))

    def test_written_out(self):
        self.assertEqual(
            [card_text((4, 13), card) for card in range(13)],
            ["c2", "c3", "c4", "c5", "c6", "c7", "c8", "c9", "ct", "cj", "cq", "ck", "ca"])
        self.assertEqual([card_text((4, 1), card) for card in range(4)], ["ca", "da", "ha", "sa"])
        self.assertEqual([card_text((2, 3), card) for card in range(6)], ["cq", "ck", "ca", "dq", "dk", "da"])
        self.assertEqual(card_text((1, 5), 0), "ct")

    def test_examples_of_the_interface(self):
        self.assertEqual(card_text((4, 13), 12), "ca")
        self.assertEqual(read_card((2, 3), "dq"), 3)

    def test_texts_that_are_not_those_of_cards(self):
        signs = "cdhs23456789tjqka1CDHSTJQKA0.- \n"
        for deck in all_decks():
            right = {letter + sign for letter in SUITS[:deck[0]] for sign in RANKS[13 - deck[1]:]}
            for first, second in product(signs, signs):
                if first + second not in right:
                    with self.subTest(deck=deck, text=first + second):
                        with self.assertRaises(InvalidText):
                            read_card(deck, first + second)

    def test_texts_of_another_length(self):
        for deck in all_decks():
            wrong = ["", "c", "a", "ca ", " ca", "caa", "cca", "c a", "ca\n", "caca", "c10", "cak", "\n", "  "]
            for text in wrong:
                with self.subTest(deck=deck, text=text):
                    with self.assertRaises(InvalidText):
                        read_card(deck, text)

    def test_cards_of_greater_decks(self):
        for deck, text in (((4, 12), "c2"), ((3, 13), "s2"), ((1, 1), "ck"), ((1, 1), "da"), ((2, 4), "dt")):
            with self.subTest(deck=deck, text=text):
                with self.assertRaises(InvalidText):
                    read_card(deck, text)


class Masks(unittest.TestCase):
    def masks(self):
        great = [2 ** 51, 2 ** 52 - 1, 2 ** 51 + 1, 0x5555555555555, 0xaaaaaaaaaaaaa]
        return list(range(1100)) + great + some_hands((4, 13))

    def test_cards_of_and_count_cards(self):
        for mask in self.masks():
            with self.subTest(mask=mask):
                cards = cards_of(mask)
                self.assertIs(type(cards), list)
                self.assertEqual(cards, members(mask))
                self.assertEqual(count_cards(mask), len(members(mask)))
                self.assertEqual(mask_of(cards), mask)

    def test_the_empty_mask(self):
        self.assertEqual(cards_of(0), [])
        self.assertEqual(mask_of([]), 0)
        self.assertEqual(count_cards(0), 0)
        self.assertEqual(of_suit((4, 13), 0, 2), 0)

    def test_example_of_the_interface(self):
        self.assertEqual(cards_of(11), [0, 1, 3])

    def test_mask_of_lists_in_any_order(self):
        for order in permutations([0, 3, 17, 51]):
            cards = list(order)
            self.assertEqual(mask_of(cards), 1 + 8 + 2 ** 17 + 2 ** 51)
            self.assertEqual(cards, list(order))

    def test_mask_of_lists_with_repetitions(self):
        for cards, mask in (([4, 4], 16), ([2, 0, 2, 2, 0], 5), ([51] * 7 + [0], 2 ** 51 + 1)):
            before = list(cards)
            self.assertEqual(mask_of(cards), mask)
            self.assertEqual(cards, before)

    def test_of_suit(self):
        for deck in all_decks():
            ranks = deck[1]
            for mask in some_hands(deck):
                parts = [of_suit(deck, mask, suit) for suit in range(deck[0])]
                wanted = [sum(2 ** card for card in members(mask) if card // ranks == suit)
                          for suit in range(deck[0])]
                with self.subTest(deck=deck, mask=mask):
                    self.assertEqual(parts, wanted)

    def test_of_suit_written_out(self):
        full = 2 ** 6 - 1
        self.assertEqual([of_suit((3, 2), full, suit) for suit in range(3)], [3, 12, 48])
        self.assertEqual([of_suit((2, 3), 0b101010, suit) for suit in range(2)], [0b010, 0b101000])

    def test_a_changed_result_has_no_effect_later(self):
        cards = cards_of(11)
        cards.append(99)
        cards[0] = 50
        self.assertEqual(cards_of(11), [0, 1, 3])
        empty = cards_of(0)
        empty.append(1)
        self.assertEqual(cards_of(0), [])


if __name__ == "__main__":
    unittest.main()
