import unittest
from itertools import product

from finesse.auction import Auction, call_text, count_auctions, read_call
from finesse.errors import AuctionNotOver, AuctionOver, IllegalCall, InvalidText

from tests.naive import SUITS, edits

P, X, XX = ("pass",), ("double",), ("redouble",)
NO_CALLS = [
    ("bid",), ("bid", 1), ("bid", 1, 0, 0), ("bid", 0, 0), ("bid", -1, 0), ("bid", 1, -1),
    ("bid", 1, 99), ("bid", 99, 0), ("bid", 10 ** 40, 0), ("bid", 0, 10 ** 40), ("bid", -10 ** 40, 1),
    ("pass", 0), ("pass", 1, 0), ("double", 0), ("redouble", 1), ("pass", -1), ("double", 1, 0),
    ("",), ("", 1, 0), ("P",), ("X",), ("XX",), ("1c",), ("Pass",), ("Bid", 1, 0), ("bids", 1, 0),
    ("contract", 1, 0), ("redoubled",),
]


def bid(level, strain):
    return ("bid", level, strain)


def all_bids(suits, size):
    return [bid(level, strain) for level in range(1, size - size // 2 + 1) for strain in range(suits + 1)]


def spoken(calls):
    """The places of the calls that are not passes."""
    return [place for place, call in enumerate(calls) if call != P]


def plain_is_over(calls):
    if calls == [P, P, P, P]:
        return True
    return calls[-3:] == [P, P, P] and bool(spoken(calls))


def plain_is_legal(calls, call):
    if plain_is_over(calls):
        return False
    places = spoken(calls)
    if call == P:
        return True
    if call[0] == "bid":
        return all(earlier[0] != "bid" or call[1:] > earlier[1:] for earlier in calls)
    answered = {"double": "bid", "redouble": "double"}[call[0]]
    return bool(places) and calls[places[-1]][0] == answered and (len(calls) - places[-1]) in (1, 3)


def plain_legal(suits, size, calls):
    return [call for call in [P, X, XX] + all_bids(suits, size) if plain_is_legal(calls, call)]


def plain_contract(dealer, calls):
    bids = [place for place in spoken(calls) if calls[place][0] == "bid"]
    if not bids:
        return None
    _, level, strain = calls[bids[-1]]
    doubled = ["bid", "double", "redouble"].index(calls[spoken(calls)[-1]][0])
    callers = [(dealer + place) % 4 for place in range(len(calls))]
    side = callers[bids[-1]] % 2
    for place in bids:
        if calls[place][2] == strain and callers[place] % 2 == side:
            return (level, strain, doubled, callers[place])


def auction_with(suits, size, dealer, calls):
    auction = Auction(suits, size, dealer)
    for call in calls:
        auction.call(call)
    return auction


def state(auction):
    contract = auction.contract() if auction.is_over() else "open"
    return auction.turn(), auction.calls(), auction.legal(), auction.is_over(), contract


class EveryAuction(unittest.TestCase):
    def go_through(self, suits, size, dealer, calls):
        """Compare all auctions that begin with some calls with the plain words, and count them."""
        auction = auction_with(suits, size, dealer, calls)
        legal = plain_legal(suits, size, calls)
        self.assertEqual(auction.legal(), legal)
        self.assertEqual(auction.turn(), (dealer + len(calls)) % 4)
        self.assertEqual(auction.calls(), calls)
        if plain_is_over(calls):
            self.assertIs(auction.is_over(), True)
            self.assertEqual(auction.contract(), plain_contract(dealer, calls))
            return 1
        self.assertIs(auction.is_over(), False)
        with self.assertRaises(AuctionNotOver):
            auction.contract()
        return sum(self.go_through(suits, size, dealer, calls + [call]) for call in legal)

    def test_all_of_small_ones(self):
        for suits, size, dealer in ((1, 1, 0), (1, 1, 1), (1, 2, 2), (1, 1, 3), (2, 1, 1)):
            with self.subTest(suits=suits, size=size, dealer=dealer):
                count = self.go_through(suits, size, dealer, [])
                self.assertEqual(count, count_auctions(suits, size))

    def test_some_of_great_ones(self):
        for suits, size, dealer in product((1, 2, 3, 4), (3, 4, 5, 13), (0, 3)):
            for step in range(1, 16):
                with self.subTest(suits=suits, size=size, dealer=dealer, step=step):
                    self.follow_one(suits, size, dealer, step)

    def follow_one(self, suits, size, dealer, step):
        auction = Auction(suits, size, dealer)
        calls = []
        while not plain_is_over(calls):
            legal = plain_legal(suits, size, calls)
            self.assertEqual(auction.legal(), legal)
            # Low numbers are passes, doubles and small raises, so that auctions get long.
            number = (step * (len(calls) + 3) ** 2 + len(calls)) % 11
            call = legal[number % len(legal)] if number < 5 else legal[0]
            auction.call(call)
            calls.append(call)
            self.assertEqual(auction.turn(), (dealer + len(calls)) % 4)
        self.assertEqual(auction.legal(), [])
        self.assertEqual(auction.contract(), plain_contract(dealer, calls))


class Legal(unittest.TestCase):
    def test_example_of_the_interface(self):
        self.assertEqual(Auction(1, 1, 0).legal(), [P, bid(1, 0), bid(1, 1)])

    def test_the_bids_that_exist(self):
        levels = {1: 1, 2: 1, 3: 2, 4: 2, 5: 3, 6: 3, 7: 4, 12: 6, 13: 7}
        for size, greatest in levels.items():
            for suits in range(1, 5):
                legal = Auction(suits, size, 0).legal()
                with self.subTest(suits=suits, size=size):
                    self.assertEqual(len(legal), 1 + greatest * (suits + 1))
                    self.assertEqual(legal[:2], [P, bid(1, 0)])
                    self.assertEqual(legal[-1], bid(greatest, suits))

    def test_order_with_double_and_redouble(self):
        auction = auction_with(2, 3, 0, [bid(2, 0)])
        self.assertEqual(auction.legal(), [P, X, bid(2, 1), bid(2, 2)])
        auction.call(X)
        self.assertEqual(auction.legal(), [P, XX, bid(2, 1), bid(2, 2)])
        auction.call(bid(2, 2))
        self.assertEqual(auction.legal(), [P, X])

    def test_who_may_double(self):
        self.assertEqual(auction_with(1, 1, 0, [P, P, P]).legal(), [P, bid(1, 0), bid(1, 1)])
        self.assertEqual(auction_with(1, 1, 0, [bid(1, 1), P]).legal(), [P])
        self.assertEqual(auction_with(1, 1, 0, [bid(1, 1), P, P]).legal(), [P, X])
        self.assertEqual(auction_with(1, 1, 0, [bid(1, 1), X, P]).legal(), [P])
        self.assertEqual(auction_with(1, 1, 0, [bid(1, 1), X, P, P]).legal(), [P, XX])
        self.assertEqual(auction_with(1, 1, 0, [bid(1, 1), X, XX]).legal(), [P])
        self.assertEqual(auction_with(1, 1, 0, [bid(1, 0), X, XX, bid(1, 1)]).legal(), [P, X])


class WrongCalls(unittest.TestCase):
    def test_they_are_refused_and_change_nothing(self):
        beginnings = [[], [P], [P, P, P], [bid(1, 1)], [bid(1, 0), X], [bid(2, 0), X, XX], [bid(2, 2), P, P],
                      [bid(2, 2), P], [bid(1, 0), X, P], [bid(2, 1), P, P, X]]
        for dealer, calls in enumerate(beginnings):
            legal = plain_legal(2, 3, calls)
            wrong = [call for call in NO_CALLS + [P, X, XX] + all_bids(4, 13) if call not in legal]
            auction = auction_with(2, 3, dealer % 4, calls)
            before = state(auction)
            for call in wrong:
                with self.subTest(calls=calls, call=call):
                    with self.assertRaises(IllegalCall):
                        auction.call(call)
                    self.assertEqual(state(auction), before)

    def test_after_the_end_each_call_is_too_late(self):
        for calls in ([P, P, P, P], [bid(1, 0), P, P, P], [P, P, P, bid(1, 1), X, XX, P, P, P]):
            auction = auction_with(1, 1, 2, calls)
            before = state(auction)
            for call in NO_CALLS + [P, X, XX, bid(1, 0), bid(1, 1)]:
                with self.subTest(calls=calls, call=call):
                    with self.assertRaises(AuctionOver):
                        auction.call(call)
                    self.assertEqual(state(auction), before)

    def test_sizes_without_an_end(self):
        size = 10 ** 30
        auction = auction_with(4, size, 1, [bid(1, 0), bid(size // 2, 3)])
        for call in (bid(size // 2, 3), bid(size // 2 + 1, 0), bid(3, 4)):
            with self.assertRaises(IllegalCall):
                auction.call(call)
        for call in (bid(size // 2, 4), P, P, P):
            auction.call(call)
        self.assertEqual(auction.contract(), (size // 2, 4, 0, 3))


class Contracts(unittest.TestCase):
    def check(self, suits, size, dealer, calls, contract):
        with self.subTest(dealer=dealer, calls=calls):
            auction = auction_with(suits, size, dealer, calls)
            self.assertIs(auction.is_over(), True)
            self.assertEqual(auction.contract(), contract)
            if contract is not None:
                self.assertIs(type(auction.contract()), tuple)

    def test_example_of_the_interface(self):
        self.check(2, 3, 3, [bid(1, 2), P, P, P], (1, 2, 0, 3))

    def test_without_a_bid(self):
        for dealer in range(4):
            self.check(1, 1, dealer, [P, P, P, P], None)

    def test_doubled_and_redoubled(self):
        self.check(4, 13, 0, [bid(1, 4), X, P, P, P], (1, 4, 1, 0))
        self.check(4, 13, 0, [bid(1, 4), X, XX, P, P, P], (1, 4, 2, 0))
        self.check(4, 13, 0, [bid(1, 4), P, P, X, P, P, XX, P, P, P], (1, 4, 2, 0))

    def test_a_new_bid_is_not_doubled(self):
        self.check(4, 13, 1, [bid(1, 0), X, bid(1, 1), P, P, P], (1, 1, 0, 3))
        self.check(4, 13, 1, [bid(1, 0), X, XX, bid(2, 2), P, P, P], (2, 2, 0, 0))
        self.check(4, 13, 1, [bid(1, 0), X, XX, bid(2, 2), X, P, P, P], (2, 2, 1, 0))

    def test_the_declarer_was_first_to_bid_the_strain(self):
        self.check(4, 13, 0, [bid(1, 2), P, bid(2, 2), P, P, P], (2, 2, 0, 0))
        self.check(4, 13, 0, [P, bid(1, 2), P, bid(1, 3), P, bid(2, 3), P, bid(4, 2), P, P, P], (4, 2, 0, 1))
        self.check(4, 13, 2, [bid(1, 0), P, bid(1, 2), P, bid(2, 0), P, bid(3, 2), P, P, P], (3, 2, 0, 0))

    def test_the_other_side_does_not_count(self):
        self.check(4, 13, 0, [bid(1, 2), bid(2, 2), P, P, P], (2, 2, 0, 1))
        self.check(4, 13, 0, [P, bid(1, 2), bid(2, 2), P, P, P], (2, 2, 0, 2))
        self.check(4, 13, 3, [bid(1, 4), bid(2, 4), P, bid(3, 4), bid(4, 4), P, P, P], (4, 4, 0, 3))

    def test_another_strain_of_the_declarer_does_not_count(self):
        self.check(4, 13, 0, [bid(1, 0), P, bid(1, 1), P, bid(2, 0), P, bid(2, 1), P, P, P], (2, 1, 0, 2))

    def test_there_is_none_before_the_end(self):
        for calls in ([], [P], [P, P, P], [bid(1, 0)], [bid(1, 0), P, P], [P, P, P, bid(1, 0), P, P],
                      [bid(1, 0), P, P, X, P, P], [bid(1, 0), P, P, bid(1, 1), P, P]):
            auction = auction_with(1, 1, 0, calls)
            with self.subTest(calls=calls):
                self.assertIs(auction.is_over(), False)
                with self.assertRaises(AuctionNotOver):
                    auction.contract()

    def test_three_passes_at_the_beginning_are_not_the_end(self):
        self.check(1, 1, 0, [P, P, P, bid(1, 0), P, P, P], (1, 0, 0, 3))


class OwnLists(unittest.TestCase):
    def test_lists_that_are_given_out_are_new(self):
        auction = auction_with(2, 3, 0, [bid(1, 0), X])
        before = state(auction)
        for given in (auction.calls(), auction.legal()):
            self.assertIs(type(given), list)
            given.append(P)
            del given[0]
            given.reverse()
        self.assertEqual(state(auction), before)

    def test_auctions_do_not_share_their_calls(self):
        first, second = Auction(2, 3, 0), Auction(2, 3, 0)
        first.call(bid(1, 0))
        self.assertEqual(second.calls(), [])
        self.assertEqual(first.calls(), [bid(1, 0)])

    def test_a_list_from_before_does_not_change(self):
        auction = Auction(2, 3, 0)
        calls, legal = auction.calls(), auction.legal()
        auction.call(bid(2, 1))
        self.assertEqual(calls, [])
        self.assertEqual(legal, [P] + all_bids(2, 3))

    def test_call_returns_nothing(self):
        self.assertIsNone(Auction(1, 1, 0).call(P))


class TextsOfCalls(unittest.TestCase):
    def texts(self, suits):
        letters = SUITS[:suits] + "n"
        texts = {"P": P, "X": X, "XX": XX}
        for level in range(1, 100):
            for strain in range(suits + 1):
                texts[str(level) + letters[strain]] = bid(level, strain)
        return texts

    def test_all_of_them(self):
        for suits in range(1, 5):
            for text, call in self.texts(suits).items():
                with self.subTest(suits=suits, text=text):
                    self.assertEqual(call_text(suits, call), text)
                    self.assertEqual(read_call(suits, text), call)
                    self.assertIs(type(read_call(suits, text)), tuple)

    def test_written_out(self):
        self.assertEqual(read_call(4, "3n"), bid(3, 4))
        self.assertEqual(read_call(1, "12n"), bid(12, 1))
        self.assertEqual(call_text(2, bid(10, 1)), "10d")
        self.assertEqual(call_text(2, bid(7, 2)), "7n")
        self.assertEqual(call_text(4, bid(1, 3)), "1s")

    def test_great_levels_have_texts_that_are_not_read(self):
        self.assertEqual(call_text(3, bid(100, 3)), "100n")
        self.assertEqual(call_text(3, bid(12345, 0)), "12345c")
        for text in ("100n", "12345c", "001n", "010c"):
            with self.assertRaises(InvalidText):
                read_call(3, text)

    def test_only_the_texts_of_calls_are_read(self):
        tried = set()
        for text in ("P", "X", "XX", "1n", "10c", "99s", "7d", "20h"):
            tried.update(edits(text, "PXx0129cdhsnN .-"))
        for suits in range(1, 5):
            right = self.texts(suits)
            for text in sorted(tried):
                with self.subTest(suits=suits, text=text):
                    if text in right:
                        self.assertEqual(read_call(suits, text), right[text])
                    else:
                        with self.assertRaises(InvalidText):
                            read_call(suits, text)

    def test_each_fault_alone(self):
        wrong = ["", " ", "p", "x", "xx", "XXX", "PP", "pass", "1", "12", "n", "c", "0n", "00n", "01n", "0", "1N",
                 "1C", "1nt", "n1", "-1n", "+1n", " 1n", "1 n", "1n ", "1n\n", "P\n", "1.n", "1_0n", "a1n",
                 "\u0663n", "\u00b2n", "1\u0663n", "\uff11n", "1x", "xn", "9999c", "1cn"]
        for text in wrong:
            with self.subTest(text=text):
                with self.assertRaises(InvalidText):
                    read_call(4, text)

    def test_a_suit_that_the_deck_has_not(self):
        for suits in range(1, 4):
            for letter in SUITS[suits:]:
                with self.subTest(suits=suits, letter=letter):
                    with self.assertRaises(InvalidText):
                        read_call(suits, "1" + letter)


class CountAuctions(unittest.TestCase):
    def test_written_out(self):
        self.assertEqual(count_auctions(1, 1), 645)
        self.assertEqual(count_auctions(2, 2), 14197)
        self.assertEqual(count_auctions(4, 13), 128745650347030683120231926111609371363122697557)

    def test_all_by_a_closed_form(self):
        for suits in range(1, 5):
            for size in list(range(1, 30)) + [100]:
                bids = len(all_bids(suits, size))
                with self.subTest(suits=suits, size=size):
                    self.assertEqual(count_auctions(suits, size), (4 * 22 ** bids - 1) // 3)


if __name__ == "__main__":
    unittest.main()
