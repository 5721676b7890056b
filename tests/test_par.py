import time
import unittest
from itertools import product

from finesse.errors import InvalidDeal, InvalidDeck
from finesse.par import makeable, par, par_contracts, table_of
from finesse.scores import needed, score_for

from tests.naive_play import PLAY_DECKS, plain_shares, some_deals

NEITHER, BOTH = [False, False], [True, True]
VULNERABILITIES = [NEITHER, BOTH, [True, False], [False, True]]


def plain_table(deck, hands):
    table = []
    for strain in range(deck[0] + 1):
        trump = strain if strain < deck[0] else -1
        row = [plain_shares(deck, (trump, hands, (declarer + 1) % 4, ()))[declarer % 2] for declarer in range(4)]
        table.append(row)
    return table


def some_table(suits, size, step):
    """A table of any numbers, whether or not a deal has it."""
    return [[(step * (7 * strain + 3 * declarer + 1) + strain * declarer + step // 3) % (size + 1)
             for declarer in range(4)] for strain in range(suits + 1)]


class PlainGame:
    """Point 9.2 in plain words: every state is looked at on its own."""

    def __init__(self, table, size, dealer, vulnerable):
        self.table, self.size, self.vulnerable = table, size, vulnerable
        self.first, self.known = dealer % 2, {}

    def higher(self, last, side):
        bids = product(range(1, self.size - self.size // 2 + 1), range(len(self.table)), (side, side + 2))
        return [bid for bid in bids if last is None or bid[:2] > last[:2]]

    def ends(self, last):
        level, strain, declarer = last
        ends = {}
        for doubled in (0, 1):
            contract = (level, strain, doubled, declarer)
            tricks = self.table[strain][declarer]
            ends[contract] = score_for(len(self.table) - 1, self.size, contract, tricks, self.vulnerable, 0)
        return ends

    def options(self, last, side, left):
        """The score and all ends of each thing that a side may do."""
        options = [self.best(bid, 1 - side, False) for bid in self.higher(last, side)]
        if last is not None:
            options += [(score, {contract}) for contract, score in self.ends(last).items()]
        elif left:
            options.append((0, {None}))
        else:
            options.append(self.best(None, 1 - side, True))
        return options

    def best(self, last, side, left):
        """The score that the side that may act can force, and the ends to which this can lead."""
        if (last, left) not in self.known:
            options = self.options(last, side, left)
            choose = max if side == 0 else min
            score = choose(option[0] for option in options)
            ends = set().union(*[option[1] for option in options if option[0] == score])
            self.known[last, left] = (score, ends)
        return self.known[last, left]

    def par(self):
        score, ends = self.best(None, self.first, False)
        contracts = sorted(end for end in ends if end is not None)
        return score, [None] * (None in ends) + contracts


class TableOf(unittest.TestCase):
    def test_example_of_the_interface(self):
        self.assertEqual(table_of((1, 4), (1, 2, 4, 8)), [[0, 1, 0, 1], [0, 1, 0, 1]])

    def test_by_going_through_all_plays(self):
        for deck, size in PLAY_DECKS:
            for hands in some_deals(deck, size, 3, 7):
                with self.subTest(deck=deck, hands=hands):
                    table = table_of(deck, hands)
                    self.assertEqual(table, plain_table(deck, hands))
                    self.assertEqual([type(table), type(table[0]), type(table[0][0])], [list, list, int])

    def test_one_suit_and_one_card(self):
        for hands in some_deals((1, 4), 1, 24):
            winner = hands.index(8)
            row = [1 if declarer % 2 == winner % 2 else 0 for declarer in range(4)]
            self.assertEqual(table_of((1, 4), hands), [row, row])

    def test_the_player_behind_the_declarer_leads(self):
        # Each has an own suit, so whoever leads without trumps wins; a trump wins against all others.
        self.assertEqual(table_of((4, 1), (1, 2, 4, 8)),
                         [[1, 0, 1, 0], [0, 1, 0, 1], [1, 0, 1, 0], [0, 1, 0, 1], [0, 0, 0, 0]])

    def test_the_rows_are_lists_of_their_own(self):
        table = table_of((1, 4), (1, 2, 4, 8))
        table[0][0] = 7
        self.assertEqual(table[1], [0, 1, 0, 1])
        self.assertEqual(table_of((1, 4), (1, 2, 4, 8)), [[0, 1, 0, 1], [0, 1, 0, 1]])

    def test_the_deck_is_tested_first(self):
        for deck in ((0, 4), (5, 4), (1, 0), (1, 14), (-1, 4)):
            for hands in ((1, 2, 4, 8), (1, 1, 4, 8), (0, 0, 0, 0)):
                with self.assertRaises(InvalidDeck):
                    table_of(deck, hands)

    def test_then_the_deal(self):
        for hands in ((1, 1, 4, 8), (0, 0, 0, 0), (3, 4, 8, 16), (1, 2, 4, 256), (1, 2, 4, 0)):
            with self.assertRaises(InvalidDeal):
                table_of((2, 4), hands)

    def test_four_cards_in_moments(self):
        began = time.perf_counter()
        for deck in ((4, 4), (2, 8), (4, 13)):
            for hands in some_deals(deck, 4, 3, 13):
                table = table_of(deck, hands)
                self.assertEqual(len(table), deck[0] + 1)
                self.assertTrue(all(0 <= tricks <= 4 for row in table for tricks in row))
        # This takes less than a second.
        self.assertLess(time.perf_counter() - began, 120)


class Par(unittest.TestCase):
    def compare(self, table, size, dealer, vulnerable):
        with self.subTest(table=table, size=size, dealer=dealer, vulnerable=vulnerable):
            score, contracts = PlainGame(table, size, dealer, vulnerable).par()
            before = [list(row) for row in table], list(vulnerable)
            self.assertEqual(par(table, size, dealer, vulnerable), score)
            self.assertEqual(par_contracts(table, size, dealer, vulnerable), contracts)
            self.assertEqual((table, vulnerable), before)
            for contract in contracts:
                tricks = table[contract[1]][contract[3]] if contract else 0
                self.assertEqual(score_for(len(table) - 1, size, contract, tricks, vulnerable, 0), score)

    def test_made_up_tables_by_the_plain_words(self):
        for suits, size in product((1, 2, 3, 4), (1, 2, 3, 5)):
            for step in range(12):
                self.compare(some_table(suits, size, step), size, step % 4, VULNERABILITIES[step // 2 % 4])

    def test_great_tables(self):
        for step, dealer in product(range(3), range(4)):
            self.compare(some_table(4, 13, step + 5), 13, dealer, VULNERABILITIES[dealer])

    def test_tables_of_deals(self):
        for deck, size in PLAY_DECKS[:10]:
            for hands in some_deals(deck, size, 3, 5):
                table = table_of(deck, hands)
                for dealer, vulnerable in product(range(4), VULNERABILITIES):
                    self.compare(table, size, dealer, vulnerable)

    def test_written_out(self):
        # Side 1 wins the only trick, so it bids no trumps at once, or after a bid of side 0 that it doubles.
        table = [[0, 1, 0, 1], [0, 1, 0, 1]]
        for dealer in range(4):
            self.assertEqual(par(table, 1, dealer, NEITHER), -90)
            self.assertEqual(par_contracts(table, 1, dealer, NEITHER), [(1, 1, 0, 1), (1, 1, 0, 3)])

    def test_nobody_bids_if_nobody_makes_anything(self):
        for suits, size, dealer in product((1, 4), (1, 2, 13), range(4)):
            table = [[0, 0, 0, 0] for _ in range(suits + 1)]
            self.assertEqual(par(table, size, dealer, BOTH), 0)
            self.assertEqual(par_contracts(table, size, dealer, BOTH), [None])

    def test_the_side_that_deals_may_come_first(self):
        # Whoever is first to bid no trumps makes it.
        table = [[0, 0, 0, 0], [1, 1, 1, 1]]
        self.assertEqual([par(table, 1, dealer, NEITHER) for dealer in range(4)], [90, -90, 90, -90])
        self.assertEqual(par_contracts(table, 1, 2, NEITHER), [(1, 1, 0, 0), (1, 1, 0, 2)])
        self.assertEqual(par_contracts(table, 1, 1, NEITHER), [(1, 1, 0, 1), (1, 1, 0, 3)])

    def test_only_one_player_makes_it(self):
        table = [[0, 0, 0, 0], [0, 0, 1, 0]]
        for dealer in range(4):
            self.assertEqual(par(table, 1, dealer, NEITHER), 90)
            self.assertEqual(par_contracts(table, 1, dealer, NEITHER), [(1, 1, 0, 2)])

    def test_a_sacrifice_is_doubled(self):
        # Side 0 makes four of suit 3; five of suit 2 by side 1 misses two tricks and costs less.
        table = [[0] * 4, [0] * 4, [0, 9, 0, 9], [10, 0, 10, 0], [0] * 4]
        self.assertEqual(par(table, 13, 0, [True, False]), 300)
        self.assertEqual(par_contracts(table, 13, 0, [True, False]), [(5, 2, 1, 1), (5, 2, 1, 3)])
        self.assertEqual(par(table, 13, 0, BOTH), 500)
        self.assertEqual(par(table, 13, 0, [False, True]), 420)
        self.assertEqual(par_contracts(table, 13, 0, [False, True]), [(4, 3, 0, 0), (4, 3, 0, 2)])

    def test_kinds(self):
        contracts = par_contracts([[0, 1, 0, 1], [0, 1, 0, 1]], 1, 0, NEITHER)
        self.assertEqual([type(contracts), type(contracts[0])], [list, tuple])
        self.assertIs(type(par([[0, 1, 0, 1], [0, 1, 0, 1]], 1, 0, NEITHER)), int)


class Makeable(unittest.TestCase):
    def test_example_of_the_interface(self):
        table = [[1, 0, 1, 0], [0, 1, 0, 1]]
        self.assertEqual(makeable(table, 1), [(1, 0, 0), (1, 0, 2), (1, 1, 1), (1, 1, 3)])

    def test_by_the_plain_words(self):
        for suits, size, step in product((1, 2, 4), (1, 2, 3, 4, 13), range(6)):
            table = some_table(suits, size, step)
            expected = []
            for level, strain, declarer in product(range(1, 14), range(suits + 1), range(4)):
                promised = needed(size, level)
                if promised <= size and table[strain][declarer] >= promised:
                    expected.append((level, strain, declarer))
            with self.subTest(suits=suits, size=size, step=step):
                self.assertEqual(makeable(table, size), expected)

    def test_nothing_and_everything(self):
        self.assertEqual(makeable([[1, 1, 1, 1], [1, 1, 1, 1]], 2), [])
        self.assertEqual(makeable([[2, 2, 2, 2], [2, 2, 2, 2]], 2), [
            (1, strain, declarer) for strain in (0, 1) for declarer in range(4)])


if __name__ == "__main__":
    unittest.main()
