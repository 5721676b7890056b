import random
import unittest

from finesse.console import run_console
from finesse.errors import InvalidLine
from finesse.par import par
from finesse.records import Record

from tests.naive_boards import NAMES, scattered, some_boards
from tests.naive_conditions import card_word
from tests.naive_play import plain_shares, plain_shares_after

HEAD = ["deck 2 4", "deal a.a k.k q.q j.j", "dealer 0", "vulnerable none"]
COMMANDS = ["result", "turn", "share", "best", "table", "par"]


def run(lines):
    return run_console("".join(line + "\n" for line in lines))


def expected_table(board):
    known = {}
    table = []
    for trump in list(range(board.deck[0])) + [-1]:
        shares = [plain_shares(board.deck, (trump, board.hands, (declarer + 1) % 4, ()), known) for declarer in range(4)]
        table.append([shares[declarer][declarer % 2] for declarer in range(4)])
    return table


def expected_best(board):
    play = board.play
    if play.is_over():
        return []
    side = play.turn() % 2
    shares = {card: plain_shares_after(board.deck, play.position(), card, {})[side] for card in play.legal()}
    return [card for card in sorted(shares) if shares[card] == max(shares.values())]


def expected(board, command):
    """The lines that a command reports about a board."""
    if command == "result":
        result = Record(board.standard()).result()
        return ["open"] if result is None else [f"score {result}"]
    if command == "turn":
        if not board.auction.is_over():
            return [f"call {board.auction.turn()}"]
        finished = board.play is None or board.play.is_over()
        return ["finished"] if finished else [f"put {board.play.turn()}"]
    if command in ("table", "par"):
        table = expected_table(board)
        if command == "table":
            return [" ".join(map(str, row)) for row in table]
        size = bin(board.hands[0]).count("1")
        return [f"par {par(table, size, board.dealer, NAMES[board.name])}"]
    if board.play is None:
        return ["no play"]
    if command == "share":
        return ["share {} {}".format(*plain_shares(board.deck, board.play.position()))]
    return [" ".join(["best"] + [card_word(board.deck, card) for card in expected_best(board)])]


class Commands(unittest.TestCase):
    def test_each_command_in_each_state_of_the_board(self):
        states = {}
        for numbers, board in some_boards(250, 3):
            if bin(board.hands[0]).count("1") > 3:
                continue
            state = (board.auction.is_over(), board.play is not None, board.play is not None and board.play.is_over())
            states[state] = states.get(state, 0) + 1
            told = board.told(numbers)
            for command in COMMANDS:
                report = "".join(line + "\n" for line in expected(board, command))
                with self.subTest(command=command, text=board.standard()):
                    self.assertEqual(run_console(board.standard() + command), report)
                    self.assertEqual(run_console(scattered(numbers, told + [command])[0]), report)
        self.assertEqual(len(states), 4)
        self.assertGreater(min(states.values()), 10)

    def test_all_commands_one_after_the_other(self):
        for numbers, board in some_boards(60, 4):
            if bin(board.hands[0]).count("1") > 3:
                continue
            commands = numbers.sample(COMMANDS * 2, 7)
            report = [line for command in commands for line in expected(board, command)]
            self.assertEqual(run(board.told(numbers) + commands), "".join(line + "\n" for line in report))

    def test_example_of_the_interface(self):
        text = "deck 1 4\ndeal j q k a\ndealer 0\nvulnerable none\ntable\n"
        self.assertEqual(run_console(text), "0 1 0 1\n0 1 0 1\n")

    def test_the_course_of_a_board(self):
        lines = HEAD + ["turn", "result", "share", "best", "call P", "turn", "call 1n P", "turn", "call P P", "turn", "result",
                        "share", "best", "put cq", "turn", "share", "best", "put cj ca ck", "turn", "share", "best", "result",
                        "put da dk dq dj", "turn", "share", "best", "result"]
        report = ["call 0", "open", "no play", "no play", "call 1", "call 3", "put 2", "open",
                  "share 2 0", "best cq dq", "put 3", "share 2 0", "best cj", "put 0", "share 1 0", "best da", "open",
                  "finished", "share 0 0", "best", "score 100"]
        self.assertEqual(run(lines), "".join(line + "\n" for line in report))

    def test_the_table_has_a_line_for_each_strain(self):
        self.assertEqual(run(HEAD + ["table"]), "2 0 2 0\n" * 3)
        self.assertEqual(run(["deck 4 1", "deal ...a ..a. .a.. a...", "dealer 1", "vulnerable both", "table"]),
                         "1 0 1 0\n0 1 0 1\n1 0 1 0\n0 1 0 1\n0 0 0 0\n")

    def test_an_auction_without_a_contract(self):
        lines = HEAD + ["call P P P P"]
        for command, report in (("result", "score 0\n"), ("turn", "finished\n"), ("share", "no play\n"), ("best", "no play\n")):
            self.assertEqual(run(lines + [command]), report)


class ConsoleCase(unittest.TestCase):
    def check_line(self, lines, number):
        for text in ("\n".join(lines), "\n".join(lines) + "\n"):
            with self.subTest(text=text):
                with self.assertRaises(InvalidLine) as caught:
                    run_console(text)
                self.assertEqual(caught.exception.line, number)
                self.assertIs(type(caught.exception.line), int)


class NotedLines(ConsoleCase):
    def test_without_commands_nothing_is_reported(self):
        for text in ("", "\n", "#", "# a\n\n", "deck 2 4", "\n".join(HEAD), "\n".join(HEAD + ["call P"]) + "\n"):
            self.assertEqual(run_console(text), "")

    def test_lines_that_no_command_reads_may_be_wrong(self):
        for line in ("deck", "deck 9 9", "deal x", "deal", "dealer", "dealer 7", "vulnerable x", "call", "call P P x", "put",
                     "put zz", "put  ", "deck  2 4", "call # a"):
            self.assertEqual(run([line]), "")
            self.assertEqual(run(HEAD + ["turn", line]), "call 0\n")
            self.assertEqual(run([line] + HEAD + ["turn"]), "call 0\n")

    def test_deck_empties_the_notes(self):
        other = ["deck 1 4", "deal j q k a", "dealer 3", "vulnerable both"]
        self.assertEqual(run(HEAD + ["call P", "turn"] + other + ["turn"] + HEAD + ["turn"]), "call 1\ncall 3\ncall 0\n")
        self.assertEqual(run(["call P", "put ck", "deal x"] + HEAD + ["turn"]), "call 0\n")
        self.assertEqual(run(["deck 5 5"] + other + ["turn"]), "call 3\n")
        # A deck alone is noted, and then the notes are no record.
        self.check_line(HEAD + ["turn", "deck 2 4", "turn"], 7)
        self.check_line(HEAD + ["deck", "turn"], 6)

    def test_the_notes_go_on_behind_a_command(self):
        self.assertEqual(run(HEAD[:3] + ["# a", ""] + HEAD[3:] + ["turn", "call P", "turn", "", "call P", "turn"]),
                         "call 0\ncall 1\ncall 2\n")


class WrongLines(ConsoleCase):
    def test_lines_that_are_no_commands(self):
        for line in ("x", " ", "Turn", "turns", "turn ", " turn", "turn 0", "turn  ", "result all", "share 0", "best 1", "par 0",
                     "table 1", "tables", "score", "play", "decks 2 4", "deals x", "calls P", "puts ck", "Deck 2 4", " deck 2 4",
                     "deck\t2 4", "deck,2", "dealers 0", "vulnerables", "quit", "turn# a", "turn\r", ";", "-", "0"):
            self.check_line([line], 1)
            self.check_line(HEAD + [line], 5)
            self.check_line(HEAD + ["turn", "", "# a", line, "x"], 8)

    def test_commands_that_read_no_record(self):
        for command in COMMANDS:
            self.check_line([command], 1)
            self.check_line(["# a", "", command, "x"], 3)
            for count in range(4):
                self.check_line(HEAD[:count] + [command], count + 1)
                self.check_line(HEAD[:count] + HEAD[count + 1:] + [command], 4)
            for line in ("call x", "call", "put ck", "call P P P P P", "deal a.a k.k q.q j.j", "vulnerable none", "call 1n P P P X"):
                self.check_line(HEAD + [line, command], 6)
                self.check_line(HEAD + ["turn", line, "# a", command, "deck", "x"], 8)
            self.check_line(HEAD + ["call 1n P P P", "put ca", command], 7)

    def test_a_fault_that_a_deck_has_removed(self):
        self.assertEqual(run(["put ck"] + HEAD + ["turn", "put ck"] + HEAD + ["turn"]), "call 0\ncall 0\n")
        self.check_line(HEAD + ["put ck", "turn"] + HEAD + ["turn"], 6)

    def test_the_first_of_several_wrong_lines(self):
        self.check_line(HEAD + ["turn", "x", "deck", "turn"], 6)
        self.check_line(HEAD + ["deck", "turn", "x"], 6)
        self.check_line(HEAD + ["turn", "deck 2 4", "par", "y"], 7)

    def test_one_wrong_line_anywhere(self):
        numbers = random.Random(9)
        for _ in range(100):
            lines = HEAD + ["turn", "result", "", "best", "# a", "share", "call P", "turn"]
            place = numbers.randrange(len(lines))
            self.check_line(lines[:place] + [numbers.choice(["x", " turn", "turn 1"])] + lines[place:], place + 1)


class NothingIsKept(unittest.TestCase):
    def test_two_runs_know_nothing_of_each_other(self):
        self.assertEqual(run(HEAD + ["turn"]), "call 0\n")
        with self.assertRaises(InvalidLine) as caught:
            run(["turn"])
        self.assertEqual(caught.exception.line, 1)
        self.assertIs(type(run(HEAD)), str)


if __name__ == "__main__":
    unittest.main()
