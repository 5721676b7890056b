import unittest
from itertools import combinations
from math import factorial

from finesse.deals import check_deal
from finesse.errors import NoSuchNumber
from finesse.numbering import (
    choices, count_deals, deal_of_number, number_of_deal, number_of_set, set_of_number, spread,
)

from tests.naive import all_deals, all_decks, deal_key, pascal, set_number

SMALL_DEALS = [
    ((1, 4), 1), ((2, 2), 1), ((4, 1), 1), ((1, 5), 1), ((2, 3), 1), ((3, 2), 1), ((1, 7), 1),
    ((1, 8), 2), ((2, 4), 2), ((4, 2), 2), ((2, 4), 1),
]
NO_DEALS = [((1, 1), 1), ((1, 3), 1), ((3, 1), 1), ((1, 7), 2), ((2, 4), 3), ((4, 13), 14), ((4, 13), 10 ** 9)]
ROWS = pascal(300)


def between(total):
    """Some numbers below a great total, the first and the last ones with them."""
    numbers = [0, 1, 2, total - 1, total - 2, total // 2, total // 3, total * 2 // 3, total // 7 * 5]
    numbers += [12345678910111213141516171819 * k * k % total for k in range(1, 20)]
    return sorted(set(numbers))


class Choices(unittest.TestCase):
    def test_small_totals(self):
        for total in range(61):
            for some in range(-3, total + 4):
                wanted = ROWS[total][some] if 0 <= some <= total else 0
                with self.subTest(total=total, some=some):
                    self.assertEqual(choices(total, some), wanted)

    def test_great_totals(self):
        self.assertEqual(choices(52, 13), 635013559600)
        self.assertEqual(choices(300, 150), ROWS[300][150])
        self.assertEqual(choices(10 ** 30, 2), 10 ** 30 * (10 ** 30 - 1) // 2)
        self.assertEqual(choices(10 ** 30, 10 ** 30), 1)

    def test_far_out_of_range(self):
        self.assertEqual(choices(5, -10 ** 30), 0)
        self.assertEqual(choices(5, 10 ** 30), 0)
        self.assertEqual(choices(0, 1), 0)
        self.assertEqual(choices(0, -1), 0)
        self.assertEqual(choices(0, 0), 1)


class NumbersOfSets(unittest.TestCase):
    def test_all_lists_of_small_totals(self):
        for total in range(10):
            for some in range(total + 1):
                for number, numbers in enumerate(combinations(range(total), some)):
                    with self.subTest(total=total, some=some, number=number):
                        self.assertEqual(set_of_number(total, some, number), list(numbers))
                        self.assertEqual(number_of_set(total, list(numbers)), number)

    def test_great_totals_back_and_forth(self):
        for total, some in ((52, 13), (52, 1), (52, 51), (100, 3), (200, 100), (300, 150), (300, 7)):
            for number in between(ROWS[total][some]):
                with self.subTest(total=total, some=some, number=number):
                    numbers = set_of_number(total, some, number)
                    self.assertIs(type(numbers), list)
                    self.assertEqual(len(numbers), some)
                    self.assertEqual(numbers, sorted(set(numbers)))
                    self.assertTrue(0 <= numbers[0] and numbers[-1] < total)
                    self.assertEqual(set_number(ROWS, total, numbers), number)
                    self.assertEqual(number_of_set(total, numbers), number)

    def test_first_and_last_of_great_totals(self):
        for total, some in ((52, 13), (300, 150), (1000, 4)):
            last = choices(total, some) - 1
            self.assertEqual(set_of_number(total, some, 0), list(range(some)))
            self.assertEqual(set_of_number(total, some, last), list(range(total - some, total)))
            self.assertEqual(number_of_set(total, list(range(some))), 0)
            self.assertEqual(number_of_set(total, list(range(total - some, total))), last)

    def test_the_empty_list_and_the_full_one(self):
        for total in (0, 1, 5, 200):
            self.assertEqual(set_of_number(total, 0, 0), [])
            self.assertEqual(number_of_set(total, []), 0)
            self.assertEqual(set_of_number(total, total, 0), list(range(total)))
            self.assertEqual(number_of_set(total, list(range(total))), 0)

    def test_no_such_number(self):
        for total in range(8):
            for some in range(-2, total + 3):
                count = choices(total, some)
                for number in (-10 ** 30, -count - 1, -count, -2, -1, count, count + 1, 10 ** 30, 10 ** 5000):
                    if not 0 <= number < count:
                        with self.subTest(total=total, some=some, number=number > 0):
                            with self.assertRaises(NoSuchNumber):
                                set_of_number(total, some, number)

    def test_no_such_number_where_there_are_no_lists(self):
        for total, some in ((3, 4), (0, 1), (5, -1), (0, -1), (52, 53)):
            for number in (-1, 0, 1):
                with self.subTest(total=total, some=some, number=number):
                    with self.assertRaises(NoSuchNumber):
                        set_of_number(total, some, number)

    def test_no_such_number_of_great_totals(self):
        for total, some in ((52, 13), (300, 150)):
            for number in (ROWS[total][some], ROWS[total][some] + 1, -1):
                with self.assertRaises(NoSuchNumber):
                    set_of_number(total, some, number)

    def test_arguments_and_results_are_apart(self):
        numbers = [1, 4, 7]
        number = number_of_set(9, numbers)
        self.assertEqual(numbers, [1, 4, 7])
        result = set_of_number(9, 3, number)
        result.append(8)
        result[0] = 0
        self.assertEqual(set_of_number(9, 3, number), [1, 4, 7])
        self.assertEqual(numbers, [1, 4, 7])


class CountDeals(unittest.TestCase):
    def test_small_decks(self):
        for deck, size in SMALL_DEALS:
            with self.subTest(deck=deck, size=size):
                self.assertEqual(count_deals(deck, size), len(all_deals(deck, size)))

    def test_every_deck_and_size(self):
        for deck in all_decks():
            cards = deck[0] * deck[1]
            for size in range(1, 16):
                wanted = 0
                if cards >= 4 * size:
                    wanted = factorial(cards) // (factorial(size) ** 4 * factorial(cards - 4 * size))
                with self.subTest(deck=deck, size=size):
                    self.assertEqual(count_deals(deck, size), wanted)

    def test_decks_with_too_few_cards(self):
        for deck, size in NO_DEALS:
            with self.subTest(deck=deck, size=size):
                self.assertEqual(count_deals(deck, size), 0)

    def test_example_of_the_interface(self):
        self.assertEqual(count_deals((4, 13), 13), 53644737765488792839237440000)


class NumbersOfDeals(unittest.TestCase):
    def test_all_deals_of_small_decks_in_order(self):
        for deck, size in SMALL_DEALS:
            for number, hands in enumerate(all_deals(deck, size)):
                with self.subTest(deck=deck, size=size, number=number):
                    self.assertEqual(deal_of_number(deck, size, number), hands)
                    self.assertEqual(number_of_deal(deck, hands), number)

    def test_example_of_the_interface(self):
        self.assertEqual(deal_of_number((1, 4), 1, 1), (1, 2, 8, 4))

    def test_great_decks_back_and_forth(self):
        for deck, size in (((4, 13), 13), ((4, 13), 12), ((4, 13), 5), ((4, 13), 1), ((3, 13), 9), ((4, 9), 9)):
            keys = []
            for number in between(count_deals(deck, size)):
                hands = deal_of_number(deck, size, number)
                with self.subTest(deck=deck, size=size, number=number):
                    self.assertIs(type(hands), tuple)
                    self.assertIsNone(check_deal(deck, hands))
                    self.assertEqual(len(deal_key(hands)[0]), size)
                    self.assertEqual(number_of_deal(deck, hands), number)
                keys.append(deal_key(hands))
            self.assertEqual(keys, sorted(keys))

    def test_first_and_last_of_great_decks(self):
        for deck, size in (((4, 13), 13), ((4, 13), 4), ((3, 13), 9), ((2, 13), 6)):
            total = count_deals(deck, size)
            cards = deck[0] * deck[1]
            hand = 2 ** size - 1
            first = tuple(hand * 2 ** (size * player) for player in range(4))
            last = tuple(hand * 2 ** (cards - size * (player + 1)) for player in range(4))
            with self.subTest(deck=deck, size=size):
                self.assertEqual(deal_of_number(deck, size, 0), first)
                self.assertEqual(deal_of_number(deck, size, total - 1), last)
                self.assertEqual(number_of_deal(deck, first), 0)
                self.assertEqual(number_of_deal(deck, last), total - 1)

    def test_numbers_counted_hand_by_hand(self):
        for deck, size in (((4, 13), 13), ((4, 13), 3), ((3, 11), 8)):
            for number in between(count_deals(deck, size)):
                with self.subTest(deck=deck, size=size, number=number):
                    hands = deal_of_number(deck, size, number)
                    self.assertEqual(self.counted(deck, size, hands), number)

    def counted(self, deck, size, hands):
        free = list(range(deck[0] * deck[1]))
        number = 0
        for cards in deal_key(hands):
            places = [free.index(card) for card in cards]
            number = number * ROWS[len(free)][size] + set_number(ROWS, len(free), places)
            free = [card for card in free if card not in cards]
        return number

    def test_no_such_number(self):
        for deck, size in SMALL_DEALS + [((4, 13), 13), ((4, 13), 1)]:
            total = count_deals(deck, size)
            for number in (-1, -2, -total, -total - 1, -10 ** 40, total, total + 1, 2 * total, 10 ** 40, 10 ** 5000):
                with self.subTest(deck=deck, size=size, positive=number > 0):
                    with self.assertRaises(NoSuchNumber):
                        deal_of_number(deck, size, number)

    def test_no_such_number_where_there_are_no_deals(self):
        for deck, size in NO_DEALS:
            for number in (-1, 0, 1):
                with self.subTest(deck=deck, size=size, number=number):
                    with self.assertRaises(NoSuchNumber):
                        deal_of_number(deck, size, number)


class Spread(unittest.TestCase):
    def test_counts_below_and_above_the_number_of_all_deals(self):
        for deck, size in (((1, 4), 1), ((1, 5), 1), ((2, 3), 1)):
            deals = all_deals(deck, size)
            total = len(deals)
            for count in (1, 2, 3, 5, 7, total - 1, total, total + 1, 2 * total, 3 * total + 1):
                result = spread(deck, size, count)
                with self.subTest(deck=deck, size=size, count=count):
                    self.assertIs(type(result), list)
                    self.assertEqual(result, [deals[k * total // count] for k in range(count)])

    def test_written_out(self):
        numbers = [number_of_deal((1, 4), hands) for hands in spread((1, 4), 1, 5)]
        self.assertEqual(numbers, [0, 4, 9, 14, 19])
        self.assertEqual(spread((1, 4), 1, 1), [(1, 2, 4, 8)])

    def test_as_many_as_there_are(self):
        self.assertEqual(spread((2, 4), 2, 2520), all_deals((2, 4), 2))

    def test_great_decks(self):
        total = 53644737765488792839237440000
        numbers = [number_of_deal((4, 13), hands) for hands in spread((4, 13), 13, 30)]
        self.assertEqual(numbers, [k * total // 30 for k in range(30)])

    def test_no_deals(self):
        for deck, size in NO_DEALS:
            for count in (1, 2, 10):
                with self.subTest(deck=deck, size=size, count=count):
                    with self.assertRaises(NoSuchNumber):
                        spread(deck, size, count)

    def test_the_same_at_every_call(self):
        first = spread((1, 5), 1, 4)
        kept = list(first)
        first.pop()
        first[0] = None
        self.assertEqual(spread((1, 5), 1, 4), kept)


if __name__ == "__main__":
    unittest.main()
