import unittest
from itertools import permutations, product

from finesse.deals import (
    check_deal, deal_text, hand_text, holder_of, is_balanced, lengths, next_player,
    partner_of, points, read_deal, read_hand, side_of, squeezed, turned,
)
from finesse.errors import InvalidDeal, InvalidDeck, InvalidText

from tests.naive import (
    RANKS, all_deals, all_decks, deal_words, edits, hand_words, members, some_hands,
)

SMALL = [(1, 1), (1, 3), (1, 5), (2, 2), (2, 3), (3, 1), (3, 2), (4, 1), (4, 2)]


def great_deal(step):
    """A deal of (4, 13) in which each hand has 13 cards, scattered by the step."""
    order = [step * k % 53 - 1 for k in range(1, 53)]
    return tuple(sum(2 ** card for card in order[13 * player:13 * player + 13]) for player in range(4))


class Players(unittest.TestCase):
    def test_written_out(self):
        self.assertEqual([next_player(player) for player in range(4)], [1, 2, 3, 0])
        self.assertEqual([partner_of(player) for player in range(4)], [2, 3, 0, 1])
        self.assertEqual([side_of(player) for player in range(4)], [0, 1, 0, 1])

    def test_they_are_integers(self):
        for function in (next_player, partner_of, side_of):
            for player in range(4):
                self.assertIs(type(function(player)), int)


class CheckDeal(unittest.TestCase):
    def test_all_tuples_of_some_masks(self):
        for deck, masks in (
                ((1, 4), [0, 1, 2, 3, 4, 8, 12, 16, 24]),
                ((2, 4), [3, 12, 48, 192, 5, 10, 1, 256, 384, 0]),
                ((2, 2), [1, 2, 4, 8, 16, 6])):
            total = deck[0] * deck[1]
            for hands in product(masks, repeat=4):
                cards = [card for hand in hands for card in members(hand)]
                sizes = {len(members(hand)) for hand in hands}
                right = len(set(cards)) == len(cards) and len(sizes) == 1 and cards and max(cards) < total
                with self.subTest(deck=deck, hands=hands):
                    if right:
                        self.assertIsNone(check_deal(deck, hands))
                    else:
                        with self.assertRaises(InvalidDeal):
                            check_deal(deck, hands)

    def test_great_deals(self):
        for step in range(1, 53):
            self.assertIsNone(check_deal((4, 13), great_deal(step)))

    def test_cards_may_be_out_of_play(self):
        self.assertIsNone(check_deal((4, 13), (1, 2 ** 51, 2 ** 20, 2 ** 7)))

    def test_each_fault_alone(self):
        wrong = {
            "one card with two players": (3, 6, 24, 96),
            "hands of different sizes": (3, 12, 16, 96),
            "one hand is smaller": (1, 2, 4, 0),
            "one hand is greater": (1, 2, 4, 24),
            "hands without cards": (0, 0, 0, 0),
            "a card beyond the deck": (1, 2, 4, 256),
            "all cards beyond the deck": (256, 512, 1024, 2048),
            "a card far beyond the deck": (1, 2, 4, 2 ** 5000),
            "all hands the same": (1, 1, 1, 1),
            "the first and the last hand share a card": (1, 2, 4, 1),
            "the middle hands share a card": (1, 2, 2, 4),
        }
        for why, hands in wrong.items():
            with self.subTest(why=why):
                with self.assertRaises(InvalidDeal):
                    check_deal((2, 4), hands)

    def test_the_deck_is_tested_first(self):
        for deck in ((0, 4), (5, 4), (1, 0), (1, 14), (-1, 4), (2, -3), (0, 0)):
            for hands in ((1, 2, 4, 8), (0, 0, 0, 0), (1, 1, 1, 1), (2 ** 99, 1, 2, 4)):
                with self.subTest(deck=deck, hands=hands):
                    with self.assertRaises(InvalidDeck):
                        check_deal(deck, hands)


class TextsOfHands(unittest.TestCase):
    def test_all_hands_of_small_decks(self):
        for deck in SMALL:
            for hand in range(2 ** (deck[0] * deck[1])):
                text = hand_words(deck, hand)
                with self.subTest(deck=deck, hand=hand):
                    self.assertEqual(hand_text(deck, hand), text)
                    self.assertEqual(read_hand(deck, text), hand)

    def test_some_hands_of_every_deck(self):
        for deck in all_decks():
            for hand in some_hands(deck):
                text = hand_words(deck, hand)
                with self.subTest(deck=deck, hand=hand):
                    self.assertEqual(hand_text(deck, hand), text)
                    self.assertEqual(read_hand(deck, text), hand)

    def test_written_out(self):
        self.assertEqual(hand_text((4, 13), 0), "...")
        self.assertEqual(hand_text((1, 13), 0), "")
        self.assertEqual(hand_text((1, 13), 2 ** 13 - 1), "akqjt98765432")
        self.assertEqual(hand_text((4, 1), 0b1001), "a...a")
        self.assertEqual(hand_text((2, 3), 0b110001), "ak.q")
        self.assertEqual(read_hand((4, 13), "..."), 0)
        self.assertEqual(read_hand((1, 2), ""), 0)
        self.assertEqual(read_hand((3, 2), "k..ak"), 0b010011)

    def test_only_the_texts_of_hands_are_read(self):
        for deck in ((1, 1), (1, 3), (2, 2), (3, 1), (2, 1)):
            hands = {hand_words(deck, hand): hand for hand in range(2 ** (deck[0] * deck[1]))}
            for length in range(6):
                for signs in product(".akqA ", repeat=length):
                    self.read_or_refuse(deck, "".join(signs), hands)

    def read_or_refuse(self, deck, text, hands):
        with self.subTest(deck=deck, text=text):
            if text in hands:
                self.assertEqual(read_hand(deck, text), hands[text])
            else:
                with self.assertRaises(InvalidText):
                    read_hand(deck, text)

    def test_each_fault_alone(self):
        wrong = [
            ((4, 13), ""), ((4, 13), ".."), ((4, 13), "...."), ((1, 4), "."), ((1, 4), "a."), ((2, 4), "ak"),
            ((2, 4), "aa."), ((2, 4), ".kk"), ((2, 4), "ka."), ((2, 4), "aqk.j"), ((2, 4), "akqja."),
            ((2, 4), "t."), ((2, 4), ".a2"), ((2, 4), "A."), ((2, 4), "a.K"), ((2, 4), "1."), ((2, 4), "x."),
            ((2, 4), "a .k"), ((2, 4), " a.k"), ((2, 4), "a.k "), ((2, 4), "a.k\n"), ((2, 4), "a,k"),
            ((2, 4), "ca.dk"), ((2, 13), "10."), ((2, 13), "2345."), ((2, 12), "32."), ((1, 1), "k"),
            ((2, 4), "-."), ((2, 4), " "), ((4, 13), ".. ."),
        ]
        for deck, text in wrong:
            with self.subTest(deck=deck, text=text):
                with self.assertRaises(InvalidText):
                    read_hand(deck, text)


class TextsOfDeals(unittest.TestCase):
    def test_examples_of_the_interface(self):
        self.assertEqual(deal_text((2, 4), (3, 12, 48, 192)), ".qj .ak qj. ak.")
        self.assertEqual(read_deal((2, 4), ".ak .qj ak. qj."), (12, 3, 192, 48))

    def test_all_deals_of_small_decks(self):
        for deck, size in (((1, 4), 1), ((1, 5), 1), ((2, 3), 1), ((4, 1), 1), ((3, 2), 1), ((2, 4), 2)):
            for hands in all_deals(deck, size):
                text = deal_words(deck, hands)
                with self.subTest(deck=deck, hands=hands):
                    self.assertEqual(deal_text(deck, hands), text)
                    self.assertEqual(read_deal(deck, text), hands)

    def test_great_deals(self):
        for step in range(1, 53):
            hands = great_deal(step)
            text = deal_words((4, 13), hands)
            self.assertEqual(deal_text((4, 13), hands), text)
            self.assertEqual(read_deal((4, 13), text), hands)

    def test_the_deal_is_a_tuple(self):
        self.assertIs(type(read_deal((1, 4), "j q k a")), tuple)

    def test_only_the_texts_of_deals_are_read(self):
        right = {deal_words((1, 4), hands): hands for hands in all_deals((1, 4), 1)}
        for length in range(8):
            for signs in product("akqj ", repeat=length):
                self.read_or_refuse((1, 4), "".join(signs), right)

    def test_texts_that_differ_a_little(self):
        for deck, size, every in (((2, 2), 1, 5), ((1, 8), 2, 500), ((2, 4), 2, 300), ((4, 1), 1, 7)):
            right = {deal_words(deck, hands): hands for hands in all_deals(deck, size)}
            for text in sorted(right)[::every]:
                for edited in edits(text, "akqjt2 .xA\n"):
                    self.read_or_refuse(deck, edited, right)

    def read_or_refuse(self, deck, text, right):
        if text in right:
            self.assertEqual(read_deal(deck, text), right[text], text)
        else:
            with self.assertRaises(InvalidText, msg=repr(text)):
                read_deal(deck, text)

    def test_each_fault_alone(self):
        wrong = [
            ((2, 4), ".qj .ak qj."), ((2, 4), ".qj .ak qj. ak. ."), ((2, 4), ".qj  .ak qj. ak."),
            ((2, 4), " .qj .ak qj. ak."), ((2, 4), ".qj .ak qj. ak. "), ((2, 4), ".qj .ak qj. ak.\n"),
            ((2, 4), ".qj\t.ak qj. ak."), ((2, 4), ".qj .ak qj. ak"), ((2, 4), ".qj .ak. qj. ak."),
            ((2, 4), ".qj .ak qj. kj."), ((2, 4), ".qj .qj qj. ak."), ((2, 4), ".j .ak qj. ak."),
            ((2, 4), ".qj .ak qj. akj."), ((2, 4), ". . . ."), ((1, 4), "   "), ((1, 4), ""),
            ((2, 4), "aj.q .ak qj. ak."), ((2, 4), ".jq .ak qj. ak."), ((2, 4), ".qq .ak jj. ak."),
            ((2, 4), ".qt .ak qj. ak."), ((2, 4), ".QJ .ak qj. ak."), ((4, 13), "... ... ... ..."),
            ((1, 8), "ak qj t9 87 "), ((1, 4), "a k q"), ((1, 4), "a k q j t"), ((1, 4), "a k q q"),
        ]
        for deck, text in wrong:
            with self.subTest(deck=deck, text=text):
                with self.assertRaises(InvalidText):
                    read_deal(deck, text)


class FunctionsOfHands(unittest.TestCase):
    def hands_to_test(self):
        pairs = [(deck, hand) for deck in SMALL for hand in range(2 ** (deck[0] * deck[1]))]
        return pairs + [(deck, hand) for deck in all_decks() for hand in some_hands(deck)]

    def test_lengths(self):
        for deck, hand in self.hands_to_test():
            counts = [0] * deck[0]
            for card in members(hand):
                counts[card // deck[1]] += 1
            with self.subTest(deck=deck, hand=hand):
                self.assertEqual(lengths(deck, hand), counts)
                self.assertIs(type(lengths(deck, hand)), list)

    def test_points(self):
        worth = {"a": 4, "k": 3, "q": 2, "j": 1}
        for deck, hand in self.hands_to_test():
            signs = [RANKS[13 - deck[1]:][card % deck[1]] for card in members(hand)]
            with self.subTest(deck=deck, hand=hand):
                self.assertEqual(points(deck, hand), sum(worth.get(sign, 0) for sign in signs))

    def test_points_written_out(self):
        self.assertEqual(points((1, 3), 5), 6)
        self.assertEqual([points((1, 1), hand) for hand in (0, 1)], [0, 4])
        self.assertEqual([points((1, 2), hand) for hand in (0, 1, 2, 3)], [0, 3, 4, 7])
        self.assertEqual([points((1, 3), 2 ** rank) for rank in range(3)], [2, 3, 4])
        self.assertEqual([points((1, 4), 2 ** rank) for rank in range(4)], [1, 2, 3, 4])
        self.assertEqual([points((1, 6), 2 ** rank) for rank in range(6)], [0, 0, 1, 2, 3, 4])
        self.assertEqual(points((4, 13), 2 ** 52 - 1), 40)
        self.assertEqual(points((4, 1), 15), 16)

    def test_is_balanced(self):
        for deck, hand in self.hands_to_test():
            cards = members(hand)
            counts = [len([card for card in cards if card // deck[1] == suit]) for suit in range(deck[0])]
            balanced = not any(few + 2 <= many for few in counts for many in counts)
            with self.subTest(deck=deck, hand=hand):
                self.assertIs(is_balanced(deck, hand), balanced)

    def test_is_balanced_written_out(self):
        self.assertIs(is_balanced((4, 13), 0), True)
        self.assertIs(is_balanced((1, 13), 0), True)
        self.assertIs(is_balanced((1, 13), 2 ** 13 - 1), True)
        self.assertIs(is_balanced((2, 4), 0b0001), True)
        self.assertIs(is_balanced((2, 4), 0b0011), False)
        for shape, balanced in (
                ((4, 3, 3, 3), True), ((3, 3, 4, 3), True), ((3, 4, 4, 3), True), ((4, 4, 4, 4), True),
                ((4, 4, 3, 2), False), ((2, 3, 4, 3), False), ((5, 3, 3, 3), False), ((1, 0, 0, 0), True),
                ((1, 1, 1, 0), True), ((0, 2, 1, 1), False), ((13, 0, 0, 0), False)):
            hand = sum((2 ** count - 1) * 2 ** (13 * suit) for suit, count in enumerate(shape))
            with self.subTest(shape=shape):
                self.assertIs(is_balanced((4, 13), hand), balanced)

    def test_a_changed_result_has_no_effect_later(self):
        counts = lengths((2, 4), 3)
        counts.append(7)
        counts[0] = 9
        self.assertEqual(lengths((2, 4), 3), [2, 0])


class TurnedAndHolder(unittest.TestCase):
    def test_turned_written_out(self):
        hands = (1, 2, 4, 8)
        self.assertEqual(turned(hands, 0), (1, 2, 4, 8))
        self.assertEqual(turned(hands, 1), (8, 1, 2, 4))
        self.assertEqual(turned(hands, 2), (4, 8, 1, 2))
        self.assertEqual(turned(hands, 3), (2, 4, 8, 1))

    def test_turned_gives_each_hand_to_the_player_so_many_places_later(self):
        for step, by in product(range(1, 53), range(4)):
            hands = great_deal(step)
            result = turned(hands, by)
            self.assertIs(type(result), tuple)
            self.assertEqual(len(result), 4)
            for player in range(4):
                self.assertEqual(result[(player + by) % 4], hands[player])

    def test_holder_of_every_card(self):
        for step in range(1, 53):
            hands = great_deal(step)
            for card in range(52):
                self.assertIn(card, members(hands[holder_of(hands, card)]))
                self.assertIn(holder_of(hands, card), range(4))

    def test_holder_of_cards_that_nobody_has(self):
        hands = (1, 2 ** 51, 2 ** 20, 2 ** 7)
        holders = {0: 0, 51: 1, 20: 2, 7: 3}
        for card in range(52):
            with self.subTest(card=card):
                self.assertEqual(holder_of(hands, card), holders.get(card, -1))

    def test_holder_of_cards_of_longer_hands(self):
        self.assertEqual([holder_of((9, 6, 80, 160), card) for card in range(10)],
                         [0, 1, 1, 0, 2, 3, 2, 3, -1, -1])


def squeezed_slowly(deck, hands):
    """Number the cards of each suit from the highest one down, as point 2.5 tells."""
    suits, ranks = deck
    in_play = [card for hand in hands for card in members(hand)]
    by_suit = [[card for card in in_play if card // ranks == suit] for suit in range(suits)]
    small = max([1] + [len(cards) for cards in by_suit])
    result = []
    for hand in hands:
        moved = 0
        for card in members(hand):
            suit = card // ranks
            higher = len([other for other in by_suit[suit] if other > card])
            moved += 2 ** (suit * small + small - 1 - higher)
        result.append(moved)
    return (suits, small), tuple(result)


class Squeezed(unittest.TestCase):
    def deals(self):
        found = []
        for deck, size in (((1, 6), 1), ((2, 3), 1), ((3, 2), 1), ((2, 4), 1), ((1, 8), 1), ((4, 2), 1)):
            found += [(deck, hands) for hands in all_deals(deck, size)]
        for step, size in product(range(1, 53), range(1, 13)):
            cut = [sum(2 ** card for card in members(hand)[:size]) for hand in great_deal(step)]
            found.append(((4, 13), tuple(cut)))
        return found

    def test_against_the_slow_way(self):
        for deck, hands in self.deals():
            with self.subTest(deck=deck, hands=hands):
                self.assertEqual(squeezed(deck, hands), squeezed_slowly(deck, hands))

    def test_the_result_is_a_deal_that_stays_as_it_is(self):
        for deck, hands in self.deals():
            with self.subTest(deck=deck, hands=hands):
                small, moved = squeezed(deck, hands)
                self.assertIsNone(check_deal(small, moved))
                self.assertEqual(squeezed(small, moved), (small, moved))

    def test_kinds(self):
        result = squeezed((2, 13), (1, 2, 4, 8))
        self.assertEqual([type(part) for part in (result,) + result], [tuple, tuple, tuple])

    def test_written_out(self):
        self.assertEqual(squeezed((1, 4), (1, 2, 4, 8)), ((1, 4), (1, 2, 4, 8)))
        self.assertEqual(squeezed((2, 4), (3, 12, 48, 192)), ((2, 4), (3, 12, 48, 192)))

    def test_suits_that_nobody_has(self):
        self.assertEqual(squeezed((4, 13), (1, 2, 4, 8)), ((4, 4), (1, 2, 4, 8)))
        hands = (2 ** 39, 2 ** 51, 2 ** 45, 2 ** 42)
        self.assertEqual(squeezed((4, 13), hands), ((4, 4), (2 ** 12, 2 ** 15, 2 ** 14, 2 ** 13)))

    def test_one_card_in_each_suit(self):
        hands = (2 ** 0, 2 ** 18, 2 ** 38, 2 ** 41)
        self.assertEqual(squeezed((4, 13), hands), ((4, 1), (1, 2, 4, 8)))

    def test_short_suits_get_the_highest_ranks(self):
        hands = (2 ** 1, 2 ** 5, 2 ** 7, 2 ** 16)
        self.assertEqual(squeezed((2, 13), hands), ((2, 3), (1, 2, 4, 32)))

    def test_order_within_a_suit_is_kept(self):
        for order in permutations([0, 3, 4, 11]):
            hands = tuple(2 ** card for card in order)
            places = {0: 1, 3: 2, 4: 4, 11: 8}
            self.assertEqual(squeezed((1, 12), hands), ((1, 4), tuple(places[card] for card in order)))


if __name__ == "__main__":
    unittest.main()
