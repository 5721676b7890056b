import random
import unittest

from finesse.errors import InvalidLine
from finesse.records import Record
from finesse.scores import score_for

from tests.naive_boards import NAMES, scattered, some_boards
from tests.naive_play import state

HEAD = ["deck 2 4", "deal .qj .ak qj. ak.", "dealer 3", "vulnerable both"]
CALLED = HEAD + ["call P 1n", "call P P P"]
BEGUN = CALLED + ["put ck dq da cj", "put ca"]


def read(lines):
    return Record("".join(line + "\n" for line in lines))


def expected_result(board):
    if not board.auction.is_over():
        return None
    contract = board.auction.contract()
    if contract is None:
        return 0
    if not board.play.is_over():
        return None
    size = len(board.play.history()) // 4
    return score_for(board.deck[0], size, contract, board.play.tricks(contract[3] % 2), NAMES[board.name], 0)


def auction_state(auction):
    return (auction.calls(), auction.turn(), auction.legal(), auction.is_over())


class Reading(unittest.TestCase):
    def test_all_methods_of_all_kinds_of_boards(self):
        kinds = {}
        for numbers, board in some_boards(400, 1):
            for text in (board.standard(), scattered(numbers, board.told(numbers))[0], board.standard()[:-1]):
                with self.subTest(text=text):
                    record = Record(text)
                    self.assertEqual(record.deck(), board.deck)
                    self.assertEqual(record.hands(), board.hands)
                    self.assertEqual(record.dealer(), board.dealer)
                    self.assertEqual(record.vulnerable(), NAMES[board.name])
                    self.assertEqual(auction_state(record.auction()), auction_state(board.auction))
                    if board.play is None:
                        self.assertIsNone(record.play())
                    else:
                        self.assertEqual(state(record.play()), state(board.play))
                    self.assertEqual(record.result(), expected_result(board))
                    self.assertEqual(record.text(), board.standard())
                    self.assertEqual(Record(record.text()).text(), board.standard())
            kind = (board.auction.is_over(), board.play is not None, expected_result(board) is not None)
            kinds[kind] = kinds.get(kind, 0) + 1
        self.assertEqual(sorted(kinds), [(False, False, False), (True, False, True), (True, True, False), (True, True, True)])
        self.assertGreater(min(kinds.values()), 15)

    def test_example_of_the_interface(self):
        record = Record("deck 1 4\ndeal j q k a\ndealer 0\nvulnerable none\ncall P 1n P P P\nput ck ca\n")
        self.assertEqual(record.play().tricks(0), 0)
        self.assertEqual(record.play().history(), [(2, 2), (3, 3)])

    def test_written_out(self):
        record = read(HEAD)
        self.assertEqual((record.deck(), record.hands(), record.dealer(), record.vulnerable()),
                         ((2, 4), (3, 12, 48, 192), 3, [True, True]))
        self.assertEqual((record.auction().turn(), record.auction().calls(), record.play(), record.result()), (3, [], None, None))
        self.assertEqual(record.text(), "\n".join(HEAD) + "\n")

    def test_the_vulnerabilities(self):
        for name, pair in NAMES.items():
            record = read(HEAD[:3] + [f"vulnerable {name}"])
            self.assertEqual(record.vulnerable(), pair)
            self.assertTrue(record.text().endswith(f"\nvulnerable {name}\n"))

    def test_lines(self):
        head = "\n".join(HEAD)
        for text in (head, head + "\n", head + "\n\n", head + "\n\n\n", "\n\n" + head, head.replace("\n", "\n\n"),
                     "# a\n" + head + "\n# b", head.replace("\n", "\n#\n") + "\n#\n"):
            with self.subTest(text=text):
                self.assertEqual(Record(text).text(), head + "\n")

    def test_trumps_and_the_first_leader(self):
        for call, trump in (("1c", 0), ("1d", 1), ("1n", -1)):
            for dealer in range(4):
                play = read(HEAD[:2] + [f"dealer {dealer}", HEAD[3], f"call {call} P P P"]).play()
                self.assertEqual((play.trump(), play.leader(), play.history()), (trump, (dealer + 1) % 4, []))

    def test_the_auction_without_a_contract(self):
        record = read(HEAD + ["call P P P", "call P"])
        self.assertTrue(record.auction().is_over())
        self.assertEqual((record.play(), record.result()), (None, 0))
        self.assertEqual(record.text(), "\n".join(HEAD + ["call P P P P", ""]))

    def test_the_score_is_that_of_side_0(self):
        # Player 3 wins all tricks.
        head = ["deck 3 4", "deal j.j.j q.q.q k.k.k a.a.a", "dealer 0"]
        for calls, leader, none, first in (("1n", 1, -100, -200), ("P 1n", 2, -120, -120), ("P P 1n", 3, -100, -200),
                                           ("P P P 1n", 0, -120, -120)):
            cards = ["cj", "cq", "ck", "ca"]
            begun = "put " + " ".join(cards[leader:] + cards[:leader])
            rest = ["put da dj dq dk", "put ha hj hq hk"]
            for name, points in (("none", none), ("0", first)):
                lines = head + [f"vulnerable {name}", f"call {calls} P P P", begun]
                self.assertEqual(read(lines + rest).result(), points)
                self.assertIsNone(read(lines + rest[:1]).result())
                self.assertIsNone(read(lines + rest[:1] + ["put ha hj hq"]).result())

class WrongLines(unittest.TestCase):
    def check_line(self, lines, number):
        for text in ("\n".join(lines), "\n".join(lines) + "\n"):
            with self.subTest(text=text):
                with self.assertRaises(InvalidLine) as caught:
                    Record(text)
                self.assertEqual(caught.exception.line, number)
                self.assertIs(type(caught.exception.line), int)

    def test_without_a_fault(self):
        self.assertEqual(read(BEGUN).play().history(), [(1, 2), (2, 5), (3, 7), (0, 0), (1, 3)])
        self.assertEqual(read(BEGUN).text(), "".join(line + "\n" for line in HEAD + ["call P 1n P P P"] + BEGUN[6:]))

    def test_heads_that_end_too_early(self):
        for text, number in (("", 1), ("\n", 2), ("\n\n", 3), ("#", 2), ("# a\n", 2), ("# a\n\n# b", 4)):
            with self.assertRaises(InvalidLine) as caught:
                Record(text)
            self.assertEqual(caught.exception.line, number)
        for count in range(4):
            text = "".join(line + "\n" for line in HEAD[:count])
            for more, lines in (("", 0), ("\n", 1), ("\n\n\n", 3), ("# a", 1), ("# a\n", 1), ("\n# a\n#\n", 3)):
                with self.assertRaises(InvalidLine) as caught:
                    Record(text + more)
                self.assertEqual(caught.exception.line, count + lines + 1)

    def test_each_line_of_the_head(self):
        wrong = [
            (0, ["deck", "deck ", "deck 2", "deck 2 ", "deck  2 4", "deck 2  4", "deck 2 4 ", "deck 2 4 1", "deck 0 4", "deck 5 4",
                 "deck 2 0", "deck 2 14", "deck 02 4", "deck 2 04", "deck 00002 4", "deck 2 10000", "deck 2 9999", "deck -2 4",
                 "deck +2 4", "deck 2 x", "deck two 4", "Deck 2 4", "decks 2 4", "deck(2,4)", " deck 2 4", "deck\t2 4", "2 4",
                 "deck 2,4", "deck 2.0 4", "deck \u0662 4", "dealer 3"]),
            (1, ["deal", "deal ", "deal .qj .ak qj.", "deal .qj .ak qj. ak. ", "deal  .qj .ak qj. ak.", "deal .qj  .ak qj. ak.",
                 "deal .qj .ak qj. ak. .", "deal .jq .ak qj. ak.", "deal .qj .ak qj. aj.", "deal .qj .ak qj. a.",
                 "deal .qj .ak qj. at.", "deal . . . .", "deal qj ak qj ak", "deal ..qj ..ak .qj. .ak.", "deal .QJ .ak qj. ak.",
                 "deal .qj .ak qj. ak. # all", "deals .qj .ak qj. ak.", ".qj .ak qj. ak.", "deal .qj,.ak,qj.,ak.", "deck 2 4",
                 "dealer 3"]),
            (2, ["dealer", "dealer ", "dealer 4", "dealer -1", "dealer 03", "dealer 00", "dealer 0000", "dealer 33", "dealer 3 ",
                 "dealer  3", "dealer 3 3", "dealer x", "dealer 10000", "Dealer 3", "deal 3", "3", "vulnerable both"]),
            (3, ["vulnerable", "vulnerable ", "vulnerable 2", "vulnerable all", "vulnerable None", "vulnerable 00",
                 "vulnerable 0 1", "vulnerable both ", "vulnerable  both", "vulnerable no", "vulnerable 01", "vul both", "both",
                 "call P", "dealer 3", "put dk"]),
        ]
        for place, lines in wrong:
            for line in lines:
                self.check_line(HEAD[:place] + [line] + HEAD[place + 1:], place + 1)
                self.check_line(HEAD[:place] + [line], place + 1)
                self.check_line(HEAD[:place] + ["", "# a", line] + HEAD[place:], place + 3)

    def test_lines_in_another_order(self):
        self.check_line([HEAD[1], HEAD[0], HEAD[2], HEAD[3]], 1)
        self.check_line([HEAD[0], HEAD[2], HEAD[1], HEAD[3]], 2)
        self.check_line([HEAD[0], HEAD[1], HEAD[3], HEAD[2]], 3)
        self.check_line(HEAD + HEAD, 5)
        for line in HEAD:
            self.check_line(HEAD + [line], 5)
            self.check_line(CALLED + [line], 7)
            self.check_line(BEGUN[:7] + [line], 8)

    def test_lines_of_calls(self):
        for line in ("call", "call ", "call  P", "call P ", "call P  P", "call p", "call PP", "call 1N", "call 0c", "call 2n",
                     "call 1h", "call 99c", "call 100c", "call X", "call P X", "call XX", "call 1c 1c", "call 1d 1c", "call 1n X X",
                     "call 1n P X", "call 1n X P XX", "call P P P P P", "call 1c P P P P", "call 1c P P P X", "call dk", "calls P",
                     "Call P", " call P", "P", "1c", "call,P", "call 1c # a", "put dk", "pass", "play", "result", "turn"):
            self.check_line(HEAD + [line], 5)
            self.check_line(HEAD + [line, "call P"], 5)
            self.check_line(HEAD + ["", line], 6)
        for line in ("call P P 1c", "call X P XX", "call P X P XX X", "call 1d", "call 1n", "call P P P P"):
            self.check_line(HEAD + ["call 1n", line, "call P"], 6)
        # The auction is over.
        for line in ("call P", "call 1n", "call X"):
            self.check_line(HEAD + ["call P P P P", line], 6)
            self.check_line(CALLED + [line], 7)
            self.check_line(BEGUN[:7] + [line], 8)

    def test_no_cards_without_a_contract(self):
        for calls in ([], ["call P"], ["call 1n P P"], ["call 1n X P P"], ["call P P P P"]):
            for line in ("put dk", "put", "put ck", "put x"):
                self.check_line(HEAD + calls + [line], 5 + len(calls))

    def test_lines_of_cards(self):
        for line in ("put", "put ", "put  ck", "put ck ", "put CK", "put c", "put ckk", "put hk", "put c2", "put kc", "put 2",
                     "put cj", "put dk", "put dj", "put ck ck", "put ck da", "put ck,da", "puts ck", "Put ck", " put ck", "ck",
                     "play ck", "put ck # a", "call ck"):
            self.check_line(CALLED + [line], 7)
            self.check_line(CALLED + ["put", "#", line], 7)

    def test_cards_that_may_not_be_put(self):
        board = ["deck 2 4", "deal a.a k.k q.q j.j", "dealer 0", "vulnerable none", "call 1n P P P"]
        self.assertEqual(read(board + ["put ck cq", "put cj ca", "put da dk dq dj"]).result(), 590)
        for line, number in (("put dq", 7), ("put ca", 7), ("put ck", 7), ("put cq dj", 7), ("put cq cj ca dk", 7),
                             ("put cq cj da", 7)):
            self.check_line(board + ["put ck", line], number)
        # The play is over.
        self.check_line(board + ["put ck cq cj ca", "put da dk dq dj", "put da"], 8)
        self.check_line(board + ["put ck cq cj ca da dk dq dj da"], 6)
        self.check_line(board + ["put ck cq cj ca da dk dq dj", "", "put ck"], 8)

    def test_the_first_of_several_wrong_lines(self):
        self.check_line(["deck 9 9", "deal x", "dealer 7", "vulnerable x", "call x"], 1)
        self.check_line(["deck 2 4", "deal x", "dealer 7", "vulnerable x", "call x"], 2)
        self.check_line(["deck 2 4", "deal x", "dealer 3"], 2)
        self.check_line(HEAD + ["call 1n P", "call 1c", "put dk", "x"], 6)
        self.check_line(HEAD[:3] + ["x"], 4)
        self.check_line(["x"], 1)
        self.check_line(["# a", "", "x", "y"], 3)

    def test_one_wrong_line_anywhere(self):
        faults = ["x", " ", "deck 2 4", "call", "put", "call 1s 1s", "put s", "call P P P P P", "# a".strip("# "), "dealer 0 "]
        for numbers, board in some_boards(120, 2):
            told = board.told(numbers)
            text, places = scattered(numbers, told)
            lines = text.split("\n")
            place = numbers.randrange(len(told))
            lines[places[place] - 1] = numbers.choice(faults) if place else numbers.choice(faults[:2] + faults[3:])
            with self.subTest(text="\n".join(lines)):
                with self.assertRaises(InvalidLine) as caught:
                    Record("\n".join(lines))
                self.assertEqual(caught.exception.line, places[place])


class NeverChanges(unittest.TestCase):
    def test_what_it_gives_out_is_new(self):
        lines = ["deck 2 4", "deal a.a k.k q.q j.j", "dealer 0", "vulnerable none", "call 1n P P P", "put ck cq"]
        for count in range(4, 7):
            record = read(lines[:count])
            before = record.text()
            record.vulnerable()[0] = True
            record.vulnerable().clear()
            if count == 4:
                record.auction().call(("bid", 1, 1))
            else:
                record.play().put(record.play().legal()[0])
                record.play().copy().put(record.play().legal()[0])
            if count == 6:
                record.play().take_back()
                play = record.play()
                play.take_back()
                play.take_back()
            self.assertEqual((record.text(), record.vulnerable()), (before, [False, False]))
            self.assertEqual([type(record.vulnerable()), type(record.deck()), type(record.hands())], [list, tuple, tuple])

    def test_two_plays_and_auctions_of_one_record(self):
        record = read(["deck 2 4", "deal a.a k.k q.q j.j", "dealer 0", "vulnerable none", "call 1n P P P", "put ck cq"])
        first, second = record.play(), record.play()
        first.put(0)
        self.assertEqual((len(first.history()), len(second.history())), (3, 2))
        record = read(HEAD)
        first, second = record.auction(), record.auction()
        first.call(("pass",))
        self.assertEqual((len(first.calls()), len(second.calls()), record.auction().calls()), (1, 0, []))


class OneChangedSign(unittest.TestCase):
    def test_each_text_is_read_or_has_a_wrong_line(self):
        text = "deck 2 4\ndeal a.a k.k q.q j.j\ndealer 0\nvulnerable 0\ncall 1n P P P\nput ck cq cj ca\nput da\n"
        numbers = random.Random(4)
        read_again = 0
        for _ in range(4000):
            place = numbers.randrange(len(text))
            changed = text[:place] + numbers.choice(["", " ", "\n", "#", "P", "c", "0", "1", "k", "n"]) + text[place + 1:]
            try:
                record = Record(changed)
            except InvalidLine as error:
                self.assertIn(error.line, range(1, changed.count("\n") + 3))
                continue
            read_again += 1
            self.assertEqual(Record(record.text()).text(), record.text())
        self.assertGreater(read_again, 100)


if __name__ == "__main__":
    unittest.main()
