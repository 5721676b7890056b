import random
import time
import unittest

from finesse.auction import Auction, call_text, read_call
from finesse.errors import AuctionOver, InvalidDeck, InvalidLine, TooMany
from finesse.numbering import count_deals, deal_of_number, spread
from finesse.par import table_of
from finesse.systems import System, boards, overlap, unused

from tests.naive import members
from tests.naive_conditions import plain_holds, some_tree, standard_text

DECKS = [((1, 4), 1), ((1, 8), 2), ((2, 4), 2), ((4, 3), 3), ((3, 4), 3), ((4, 13), 2)]
PASS = ("pass",)
OPENINGS = """# Openings
- ; points(0) >= 4 and len(0, d) >= 2 ; 1d
- ; points(0)>=4 ; 1c

- ; len(0,c)=0 ; 1n
# Answers
1c ; len(0, d) >= 1 ; 1d
1c P ; points(0) >= 2 ; X
1d ; points(0) >= 3 ; X
1d X ; has(0, da) or has(0, ca) ; XX
* ; points(0) >= 8 ; 1n
"""


def own_tree(deck, numbers):
    """A condition about player 0."""
    return about_player_0(some_tree(deck, numbers, numbers.choice([0, 0, 1, 2])))


def about_player_0(tree):
    kind, *rest = tree
    if kind == "has":
        return [kind, 0, rest[1]]
    if kind == "compare":
        sign, left, right = rest
        return [kind, sign] + [[(s, term if term[0] == "number" else [term[0], 0] + term[2:]) for s, term in terms]
                               for terms in (left, right)]
    return [kind] + [about_player_0(part) for part in rest]


def all_calls(deck, size):
    return [("pass",), ("double",), ("redouble",)] + [
        ("bid", level, strain) for level in range(1, size - size // 2 + 1) for strain in range(deck[0] + 1)]


def some_pattern(deck, size, numbers):
    kind = numbers.random()
    if kind < 0.35:
        return "*"
    if kind < 0.6:
        return "-"
    auction = Auction(deck[0], size, 0)
    for _ in range(numbers.choice([1, 1, 2, 3, 4])):
        legal = auction.legal()
        if legal:
            auction.call(numbers.choice(legal + legal[-1:] * 2) if auction.calls() else numbers.choice(legal[1:]))
    return " ".join(call_text(deck[0], call) for call in auction.calls())


class PlainSystem:
    """The words of Part 15 on lists of tuples of pattern, tree and call."""

    def __init__(self, deck, size, rules):
        self.deck, self.size, self.rules = deck, size, rules

    def text(self, spaces=""):
        return "".join(f"{pattern} ; {spaces}{standard_text(self.deck, tree)} ; {call_text(self.deck[0], call)}\n"
                       for pattern, tree, call in self.rules)

    def call_for(self, hand, auction):
        so_far = list(auction.calls())
        while so_far and so_far[0] == PASS:
            so_far.pop(0)
        words = [call_text(self.deck[0], call) for call in so_far]
        for index, (pattern, tree, call) in enumerate(self.rules):
            fits = pattern == "*" or words == ([] if pattern == "-" else pattern.split(" "))
            if fits and plain_holds(self.deck, tree, (hand, 0, 0, 0)) and call in auction.legal():
                return call, index
        return PASS, -1

    def bid(self, hands, dealer):
        auction = Auction(self.deck[0], self.size, dealer)
        used = []
        while not auction.is_over():
            call, index = self.call_for(hands[auction.turn()], auction)
            auction.call(call)
            used.append(index)
        return auction, used


def some_systems(count, seed):
    numbers = random.Random(seed)
    for _ in range(count):
        deck, size = numbers.choice(DECKS)
        rules = [(some_pattern(deck, size, numbers), own_tree(deck, numbers), numbers.choice(all_calls(deck, size)))
                 for _ in range(numbers.choice([0, 1, 3, 6, 10]))]
        deals = [deal_of_number(deck, size, numbers.randrange(count_deals(deck, size))) for _ in range(6)]
        yield numbers, PlainSystem(deck, size, rules), deals


class Rules(unittest.TestCase):
    def test_rules_of_all_kinds(self):
        for _, plain, _ in some_systems(300, 1):
            for spaces in ("", " ", "   "):
                system = System(plain.deck, plain.size, plain.text(spaces))
                self.assertEqual(system.rules(), [(pattern, standard_text(plain.deck, tree), call_text(plain.deck[0], call))
                                                  for pattern, tree, call in plain.rules])

    def test_written_out(self):
        system = System((2, 4), 4, OPENINGS)
        rules = system.rules()
        self.assertEqual(len(rules), 8)
        self.assertEqual(rules[0], ("-", "points(0) >= 4 and len(0, d) >= 2", "1d"))
        self.assertEqual(rules[1], ("-", "points(0) >= 4", "1c"))
        self.assertEqual(rules[4], ("1c P", "points(0) >= 2", "X"))
        self.assertEqual(rules[7], ("*", "points(0) >= 8", "1n"))

    def test_systems_without_rules(self):
        for text in ("", "\n", "\n\n", "#", "# a\n\n#b\n"):
            system = System((2, 4), 2, text)
            self.assertEqual((system.rules(), system.counts([(3, 12, 48, 192)], 0)), ([], [0] * 0))
            self.assertEqual(system.call_for(3, Auction(2, 2, 0)), (("pass",), -1))
            self.assertEqual(system.auction_for((3, 12, 48, 192), 1).calls(), [PASS] * 4)
            self.assertEqual((unused(system, [], 0), overlap(system, (2, 4), "*")), ([], []))
            self.assertEqual(boards(system, [(3, 12, 48, 192)], 2), [(None, 0)])

    def test_lines(self):
        for text in ("* ; 0 = 0 ; P", "* ; 0 = 0 ; P\n", "\n\n# a\n* ; 0=0 ; P\n\n", "#\n* ;  0  =  0  ; P\n#"):
            self.assertEqual(System((2, 4), 2, text).rules(), [("*", "0 = 0", "P")])

    def test_what_it_gives_out_is_new(self):
        system = System((2, 4), 4, OPENINGS)
        before = system.rules()
        self.assertEqual([type(before), type(before[0])], [list, tuple])
        system.rules().clear()
        deal = deal_of_number((2, 8), 4, 10)
        counts = system.counts([deal], 0)
        counts[0] += 5
        auction = system.auction_for(deal, 0)
        self.assertTrue(auction.is_over())
        self.assertIsNot(system.auction_for(deal, 0), auction)
        self.assertEqual(system.rules(), before)
        self.assertNotEqual(system.counts([deal], 0), counts)


class WrongSystems(unittest.TestCase):
    def check_line(self, lines, number, deck=(2, 4), size=4):
        for text in ("\n".join(lines), "\n".join(lines) + "\n"):
            with self.subTest(text=text):
                with self.assertRaises(InvalidLine) as caught:
                    System(deck, size, text)
                self.assertEqual(caught.exception.line, number)
                self.assertIs(type(caught.exception.line), int)

    def wrong_lines(self):
        parts = ["*", "0 = 0", "P"]
        wrong = [
            (0, ["", " ", "**", "* *", "* P", "--", "- -", "P ", " P", "P  P", "1c,P", "p", "1C", "1h", "0c", "3c", "99n", "100c", "c",
                 "P 3d", "3d P", "P 1c 1d 2n 3n", "1c *", "pass", "*;", "XXX", "1c - P"]),
            (1, ["", " ", "0", "0 = ", "points(1) = 0", "points(2) >= 1", "points(3) >= 1", "points(4) = 1", "len(1, c) = 0",
                 "has(3, ca)", "0 = 0 or has(1, ca)", "points(0) = points(2)", "not (len(0, c) = 1 and len(3, d) = 1)", "len(0, h) = 1",
                 "has(0, ct)", "00 = 0", "10000 = 0", "x", "0 = 0 and", "not " * 41 + "0 = 0", "*", "0 = 0 # a"]),
            (2, ["", " ", "P ", " P", "p", "*", "-", "P P", "1c P", "3c", "3n", "0c", "1h", "100c", "99c", "1N", "n", "pass", "P # a"]),
        ]
        for place, texts in wrong:
            for text in texts:
                yield " ; ".join(parts[:place] + [text] + parts[place + 1:])
        for line in ("*", "x", " ", "* ; 0 = 0", "* ; P", "; ;", " ;  ; ", "*;0 = 0;P", "* ;0 = 0 ; P", "* ; 0 = 0; P", "* ; 0 = 0 ;P",
                     "*  ; 0 = 0 ; P", " * ; 0 = 0 ; P", "* ; 0 = 0 ; P ; P", "* ; * ; 0 = 0 ; P", "* ; 0 = 0 ; P ; ", " # a", "0 = 0 ; * ; P",
                     "* ; 0 = 0 ;  P", "*\t; 0 = 0 ; P", "* , 0 = 0 , P"):
            yield line

    def test_one_wrong_line(self):
        good = "- ; points(0) >= 1 ; 1c"
        for line in self.wrong_lines():
            self.check_line([line], 1)
            self.check_line([good, "", "# a", line, good], 4)

    def test_two_wrong_lines(self):
        lines = list(self.wrong_lines())
        for place, line in enumerate(lines):
            self.check_line(["# a", line, lines[place - 1]], 2)

    def test_bids_that_exist(self):
        for size, levels in ((1, 1), (2, 1), (3, 2), (4, 2), (5, 3), (13, 7)):
            for deck in ((1, 13), (4, 13)):
                letter = "c" if deck[0] == 1 else "s"
                for strain in (letter, "n"):
                    text = f"{levels}{strain} P ; 0 = 0 ; {levels}{strain}"
                    self.assertEqual(System(deck, size, text).rules(), [(f"{levels}{strain} P", "0 = 0", f"{levels}{strain}")])
                    self.check_line([text, f"{levels + 1}{strain} P ; 0 = 0 ; P"], 2, deck, size)
                    self.check_line([text, "", f"* ; 0 = 0 ; {levels + 1}{strain}"], 3, deck, size)

    def test_calls_that_are_never_legal_are_rules(self):
        text = "P ; 0 = 0 ; 1c\nP P 1c ; 0 = 0 ; 1c\n1d 1c ; 0 = 0 ; 1n\nXX X ; 0 = 0 ; P\n- ; 0 = 0 ; X\n"
        system = System((2, 4), 2, text)
        self.assertEqual(len(system.rules()), 5)
        self.assertEqual(unused(system, [(3, 12, 48, 192)], 0), [0, 1, 2, 3, 4])

    def test_decks_that_are_none_come_first(self):
        for deck in ((0, 4), (5, 4), (2, 0), (2, 14), (-1, 4)):
            for text in ("", "x", "* ; 0 = 0 ; P", "* ; has(0, zz) ; P"):
                with self.assertRaises(InvalidDeck):
                    System(deck, 1, text)


class Calling(unittest.TestCase):
    def test_all_by_the_words_of_the_points(self):
        told = 0
        for numbers, plain, deals in some_systems(300, 2):
            system = System(plain.deck, plain.size, plain.text())
            dealer = numbers.randrange(4)
            counts = [0] * len(plain.rules)
            for hands in deals:
                auction, used = plain.bid(hands, dealer)
                told += len([index for index in used if index >= 0])
                for index in used:
                    if index >= 0:
                        counts[index] += 1
                found = system.auction_for(hands, dealer)
                self.assertEqual(found.calls(), auction.calls())
                self.assertTrue(found.is_over())
                self.assertEqual(found.contract(), auction.contract())
            with self.subTest(text=plain.text()):
                self.assertEqual(system.counts(deals, dealer), counts)
                self.assertEqual(unused(system, deals, dealer), [k for k, count in enumerate(counts) if count == 0])
        self.assertGreater(told, 1500)

    def test_call_for_in_all_moments_of_some_auctions(self):
        for numbers, plain, deals in some_systems(150, 3):
            system = System(plain.deck, plain.size, plain.text())
            auction = Auction(plain.deck[0], plain.size, 3)
            while not auction.is_over():
                before = auction.calls()
                for hand in deals[0]:
                    self.assertEqual(system.call_for(hand, auction), plain.call_for(hand, auction))
                self.assertEqual(auction.calls(), before)
                auction.call(numbers.choice([PASS] + auction.legal()))
            with self.assertRaises(AuctionOver):
                system.call_for(deals[0][0], auction)

    def test_example_of_the_interface(self):
        system = System((1, 4), 1, "- ; points(0) >= 3 ; 1c\n* ; points(0) >= 0 ; P\n")
        self.assertEqual(system.call_for(8, Auction(1, 1, 0)), (("bid", 1, 0), 0))
        self.assertEqual(system.call_for(4, Auction(1, 1, 0)), (("bid", 1, 0), 0))
        self.assertEqual(system.call_for(2, Auction(1, 1, 0)), (("pass",), 1))

    def called(self, words):
        auction = Auction(2, 4, 0)
        for word in words:
            auction.call(read_call(2, word))
        return auction

    def test_patterns(self):
        # The calls so far, and the first rule that fits of those for each pattern.
        patterns = ["P", "-", "1c", "1c P", "1c P P", "P 1c", "1c X", "1c X XX", "1d", "*"]
        text = "".join(f"{pattern} ; 0 = 0 ; P\n" for pattern in patterns)
        system = System((2, 4), 4, text)
        for words, rule in (([], 1), (["P"], 1), (["P", "P"], 1), (["P", "P", "P"], 1), (["1c"], 2), (["P", "1c"], 2),
                            (["P", "P", "P", "1c"], 2), (["1c", "P"], 3), (["P", "1c", "P"], 3), (["1c", "P", "P"], 4),
                            (["P", "P", "1c", "P", "P"], 4), (["1c", "X"], 6), (["P", "1c", "X", "XX"], 7), (["1d"], 8),
                            (["1c", "1d"], 9), (["1n"], 9), (["1c", "X", "P"], 9)):
            self.assertEqual(system.call_for(0, self.called(words)), (PASS, rule))

    def test_the_first_rule_that_can_tell_its_call(self):
        text = "* ; 0 = 0 ; XX\n* ; 0 = 0 ; X\n* ; has(0, ca) ; 1c\n* ; 0 = 0 ; 1c\n* ; 0 = 0 ; 2n\n"
        system = System((2, 4), 4, text)
        for hand, words, answer in ((8, [], (("bid", 1, 0), 2)), (4, [], (("bid", 1, 0), 3)), (8, ["1c"], (("double",), 1)),
                                    (8, ["1c", "P"], (("bid", 2, 2), 4)), (8, ["1c", "X"], (("redouble",), 0)),
                                    (8, ["2n", "P"], (PASS, -1)), (8, ["2n"], (("double",), 1)), (8, ["2n", "X", "XX"], (PASS, -1))):
            self.assertEqual(system.call_for(hand, self.called(words)), answer)

    def test_the_condition_is_about_the_player_who_calls(self):
        system = System((1, 4), 1, "- ; has(0, ca) ; 1n")
        for player in range(4):
            hands = [1, 2, 4]
            hands.insert(player, 8)
            for dealer in range(4):
                auction = system.auction_for(tuple(hands), dealer)
                self.assertEqual(auction.contract(), (1, 1, 0, player))
                self.assertEqual(auction.calls(), [PASS] * ((player - dealer) % 4) + [("bid", 1, 1)] + [PASS] * 3)

    def test_auction_over(self):
        system = System((2, 4), 4, "* ; 0 = 0 ; 1c\n")
        for words in (["P"] * 4, ["1c", "P", "P", "P"]):
            with self.assertRaises(AuctionOver):
                system.call_for(0, self.called(words))

    def test_auctions_end(self):
        calls = [f"{level}{letter}" for level in range(1, 8) for letter in "cdhsn"]
        text = "".join(f"* ; 0 = 0 ; {call}\n" for call in ["XX", "X"] + calls)
        auction = System((4, 13), 13, text).auction_for(tuple((2 ** 13 - 1) << 13 * k for k in range(4)), 2)
        # Each bid is doubled and redoubled, and no call follows a redouble but the next bid.
        self.assertEqual(auction.contract()[:3], (7, 4, 2))
        self.assertEqual(len(auction.calls()), 3 * 35 + 3)

    def test_counts_of_several_deals(self):
        system = System((1, 4), 1, "- ; has(0, ca) ; 1n\n1n ; has(0, ck) ; X\n* ; has(0, cj) ; P\n1n X ; 0 = 0 ; XX\n")
        # The players before the one with the ace pass by no rule.
        deals = [(8, 4, 2, 1), (1, 2, 4, 8)]
        self.assertEqual(system.counts(deals[:1], 0), [1, 1, 1, 1])
        self.assertEqual(system.counts(deals[1:], 0), [1, 0, 2, 0])
        self.assertEqual(system.counts(deals, 0), [2, 1, 3, 1])
        self.assertEqual(system.counts(deals + deals, 0), [4, 2, 6, 2])
        self.assertEqual(system.counts([], 0), [0, 0, 0, 0])
        self.assertEqual(unused(system, deals[1:], 0), [1, 3])
        self.assertEqual(unused(system, [], 3), [0, 1, 2, 3])
        self.assertEqual(unused(system, deals, 0), [])


class Boards(unittest.TestCase):
    def test_contracts_and_the_table(self):
        seen = {None: 0, True: 0}
        for numbers, plain, deals in some_systems(60, 4):
            system = System(plain.deck, plain.size, plain.text())
            expected = []
            for hands in deals[:3]:
                contract = plain.bid(hands, 1)[0].contract()
                if contract is None:
                    expected.append((None, 0))
                else:
                    expected.append((contract, table_of(plain.deck, hands)[contract[1]][contract[3]]))
                seen[None if contract is None else True] += 1
            self.assertEqual(boards(system, deals[:3], 1), expected)
        self.assertGreater(min(seen.values()), 20)

    def test_written_out(self):
        system = System((1, 4), 1, "- ; has(0, ca) ; 1n\n1n ; has(0, ck) ; X\n")
        self.assertEqual(boards(system, [(8, 4, 2, 1), (1, 2, 4, 8), (1, 2, 4, 8)], 0),
                         [((1, 1, 1, 0), 1), ((1, 1, 0, 3), 1), ((1, 1, 0, 3), 1)])
        self.assertEqual(boards(system, [], 0), [])
        found = boards(system, [(8, 4, 2, 1)], 0)
        self.assertEqual([type(found), type(found[0]), type(found[0][0])], [list, tuple, tuple])
        found = boards(System((1, 4), 1, "* ; has(0, cj) ; 1c"), [(8, 4, 2, 1)], 2)
        self.assertEqual(found, [((1, 0, 0, 3), 0)])

    def test_a_sample_in_moments(self):
        began = time.perf_counter()
        system = System((2, 8), 4, OPENINGS)
        deals = spread((2, 8), 4, 40)
        self.assertEqual(len(boards(system, deals, 0)), 40)
        self.assertEqual(len(system.counts(deals, 0)), 8)
        # This takes about a second.
        self.assertLess(time.perf_counter() - began, 60)


class Overlap(unittest.TestCase):
    def plain_overlap(self, plain, pattern):
        rules = [index for index, rule in enumerate(plain.rules) if rule[0] == pattern]
        total = plain.deck[0] * plain.deck[1]
        hands = [hand for hand in range(2 ** total) if len(members(hand)) == plain.size]
        holding = {index: [hand for hand in hands if plain_holds(plain.deck, plain.rules[index][1], (hand, 0, 0, 0))]
                   for index in rules}
        return [(i, k) for i in rules for k in rules if i < k and any(hand in holding[k] for hand in holding[i])]

    def test_all_by_going_through_the_hands(self):
        pairs = 0
        for _, plain, _ in some_systems(200, 5):
            if plain.deck[0] * plain.deck[1] > 12:
                continue
            system = System(plain.deck, plain.size, plain.text())
            for pattern in ["*", "-", "1c", "1c P", "x", ""]:
                expected = self.plain_overlap(plain, pattern)
                pairs += len(expected)
                self.assertEqual(overlap(system, plain.deck, pattern), expected)
        self.assertGreater(pairs, 50)

    def test_written_out(self):
        text = ("- ; points(0) >= 4 ; 1c\n* ; 0 = 0 ; P\n- ; points(0) <= 3 ; 1d\n- ; len(0, c) = 2 ; 1n\n* ; 0 = 1 ; P\n"
                "* ; has(0, da) ; X\n1c ; 0 = 0 ; P\n1c P ; 0 = 0 ; P\n1c ; 1 = 1 ; 1d\n")
        system = System((2, 4), 2, text)
        self.assertEqual(overlap(system, (2, 4), "-"), [(0, 3), (2, 3)])
        self.assertEqual(overlap(system, (2, 4), "*"), [(1, 5)])
        self.assertEqual(overlap(system, (2, 4), "1c"), [(6, 8)])
        for pattern in ("1c P", "1d", "P", "", "nothing", " -"):
            self.assertEqual(overlap(system, (2, 4), pattern), [])
        self.assertEqual([type(part) for part in (overlap(system, (2, 4), "-"), overlap(system, (2, 4), "-")[0])], [list, tuple])

    def test_the_size_counts(self):
        # One card is not two, but two hands of two cards are.
        text = "- ; has(0, ca) ; 1c\n- ; has(0, ck) ; 1n\n"
        self.assertEqual(overlap(System((1, 8), 1, text), (1, 8), "-"), [])
        self.assertEqual(overlap(System((1, 8), 2, text), (1, 8), "-"), [(0, 1)])

    def test_up_to_20000_hands(self):
        # Of 16 cards, 6 are chosen in 8008 ways, and of 24 cards, 5 in 42504.
        text = "- ; points(0) >= 9 ; 1c\n- ; len(0, c) = 5 ; 1n\n* ; 0 = 0 ; P\n"
        self.assertEqual(overlap(System((2, 8), 4, text), (2, 8), "-"), [])
        self.assertEqual(overlap(System((2, 8), 6, text), (2, 8), "-"), [(0, 1)])
        self.assertEqual(overlap(System((3, 9), 4, text), (3, 9), "*"), [])
        for deck, size in (((3, 8), 5), ((4, 13), 13), ((4, 13), 4), ((3, 10), 4)):
            for pattern in ("-", "*", "1c"):
                with self.assertRaises(TooMany):
                    overlap(System(deck, size, text), deck, pattern)
            with self.assertRaises(TooMany):
                overlap(System(deck, size, ""), deck, "-")

    def test_hands_that_the_deck_has_not(self):
        self.assertEqual(overlap(System((1, 4), 5, "- ; 0 = 0 ; P\n- ; 0 = 0 ; P"), (1, 4), "-"), [])


if __name__ == "__main__":
    unittest.main()
