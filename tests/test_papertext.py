import re
import unittest

from finesse.errors import InvalidText
from finesse.papertext import paper_text, read_paper
from finesse.play import Play, play_at
from finesse.strategy import paper_for

from tests.naive import RANKS, SUITS, deal_words, edits, hand_words, members
from tests.naive_play import PLAY_DECKS, some_deals, walked

EXAMPLE = (((-1, (0, 0, 0, 8), 0, (0, 1, 2)), 3), ((-1, (0, 2, 4, 8), 0, (0,)), 1))
EXAMPLE_TEXT = "n    a 0 cj-cq-ck ca\nn  q k a 0 cj cq\n"


def card_word(deck, card):
    return SUITS[card // deck[1]] + RANKS[13 - deck[1] + card % deck[1]]


def entry_words(deck, entry):
    (trump, hands, leader, led), card = entry
    return " ".join([
        SUITS[trump] if trump >= 0 else "n", deal_words(deck, hands), str(leader),
        "-".join(card_word(deck, put) for put in led) or ".", card_word(deck, card)]) + "\n"


def plain_read(deck, text):
    """The paper with a text, or None; each word is looked up among all words that there are."""
    cards = {card_word(deck, card): card for card in range(deck[0] * deck[1])}
    hands = {hand_words(deck, hand): hand for hand in range(2 ** (deck[0] * deck[1]))}
    trumps = dict(zip("n" + SUITS[:deck[0]], range(-1, deck[0])))
    if not re.fullmatch("([^\n]*\n)*", text):
        return None
    paper = []
    for line in text.split("\n")[:-1]:
        words = line.split(" ")
        if len(words) != 8 or words[0] not in trumps or words[5] not in list("0123") or words[7] not in cards:
            return None
        put = [] if words[6] == "." else words[6].split("-")
        if any(word not in hands for word in words[1:5]) or any(word not in cards for word in put):
            return None
        held = tuple(hands[word] for word in words[1:5])
        led = tuple(cards[word] for word in put)
        in_hands = [card for hand in held for card in members(hand)]
        if len(set(in_hands)) < len(in_hands) or set(in_hands) & set(led):
            return None
        paper.append(((trumps[words[0]], held, int(words[5]), led), cards[words[7]]))
    positions = [position for position, _ in paper]
    return tuple(paper) if positions == sorted(set(positions)) else None


class Texts(unittest.TestCase):
    def test_example(self):
        self.assertEqual(paper_text((1, 4), EXAMPLE), EXAMPLE_TEXT)
        self.assertEqual(read_paper((1, 4), EXAMPLE_TEXT), EXAMPLE)

    def test_written_out(self):
        paper = (((-1, (3, 12, 48, 192), 2, ()), 5), ((0, (0, 4, 0, 0), 3, (7, 0, 1)), 1),
                 ((1, (0, 0, 0, 0), 1, ()), 6))
        text = "n .qj .ak qj. ak. 2 . dq\nc . .k . . 3 da-cj-cq cq\nd . . . . 1 . dk\n"
        self.assertEqual(paper_text((2, 4), paper), text)
        self.assertEqual(read_paper((2, 4), text), paper)

    def test_the_empty_paper(self):
        for deck in ((1, 1), (1, 4), (4, 13)):
            self.assertEqual(paper_text(deck, ()), "")
            self.assertEqual(read_paper(deck, ""), ())

    def test_papers_of_plays_there_and_back(self):
        for deck, size in PLAY_DECKS:
            for step, hands in enumerate(some_deals(deck, size, 3)):
                for trump in range(-1, deck[0]):
                    for cards in range(0, 4 * size, 3):
                        self.there_and_back(walked(deck, hands, trump, step, step, cards))

    def there_and_back(self, play):
        for side in (0, 1):
            paper = paper_for(play, side)
            text = "".join(entry_words(play.deck(), entry) for entry in paper)
            with self.subTest(position=play.position(), side=side):
                self.assertEqual(paper_text(play.deck(), paper), text)
                self.assertEqual(read_paper(play.deck(), text), paper)

    def test_all_trumps_and_leaders_of_every_deck(self):
        for suits in range(1, 5):
            for ranks in range(2, 14):
                entries = [((trump, (1, 0, 0, 0), leader, (suits * ranks - 1,)), 0)
                           for trump in range(-1, suits) for leader in range(4)]
                text = "".join(entry_words((suits, ranks), entry) for entry in entries)
                self.assertEqual(paper_text((suits, ranks), tuple(entries)), text)
                self.assertEqual(read_paper((suits, ranks), text), tuple(entries))

    def test_kinds(self):
        paper = read_paper((1, 4), EXAMPLE_TEXT)
        position, card = paper[0]
        kinds = [type(part) for part in (paper, paper[0], position, position[1], position[3], card, position[2])]
        self.assertEqual(kinds, [tuple, tuple, tuple, tuple, tuple, int, int])

    def test_a_paper_that_was_read_holds(self):
        play = Play((2, 6), (0b1000011, 0b100010100, 0b10101000, 0b111000000000), -1, 0)
        paper = paper_for(play, 0)
        self.assertEqual(read_paper((2, 6), paper_text((2, 6), paper)), paper)


class NothingElseIsTested(unittest.TestCase):
    def there_and_back(self, deck, paper):
        text = "".join(entry_words(deck, entry) for entry in paper)
        self.assertEqual(paper_text(deck, paper), text)
        self.assertEqual(read_paper(deck, text), paper)

    def test_hands_of_any_sizes(self):
        self.there_and_back((2, 4), (((0, (255, 0, 0, 0), 0, ()), 3),))
        self.there_and_back((2, 4), (((0, (0, 1, 14, 0), 3, (7, 6, 5)), 3),))
        self.there_and_back((1, 4), (((0, (0, 0, 0, 15), 3, ()), 3),))

    def test_a_card_that_is_not_held(self):
        self.there_and_back((2, 4), (((-1, (1, 2, 4, 8), 0, ()), 7),))
        self.there_and_back((2, 4), (((-1, (1, 2, 4, 8), 0, (7,)), 7),))
        self.there_and_back((2, 4), (((-1, (1, 2, 4, 8), 0, (7,)), 3),))

    def test_tricks_in_any_order(self):
        self.there_and_back((2, 4), (((-1, (1, 0, 0, 0), 0, (5, 4, 6)), 0), ((-1, (1, 0, 0, 0), 0, (6, 5)), 0)))


class WrongTexts(unittest.TestCase):
    def refuse(self, deck, text):
        with self.subTest(deck=deck, text=text):
            with self.assertRaises(InvalidText):
                read_paper(deck, text)

    def test_each_fault_alone(self):
        line = "c .qj .a qj. a. 2 dk-ck dq"
        self.assertEqual(read_paper((2, 4), line + "\n"), (((0, (3, 8, 48, 128), 2, (6, 2)), 5),))
        faults = {
            "no line feed at the end": line, "an empty line": line + "\n\n", "an empty line before": "\n" + line + "\n",
            "a second line begun": line + "\n ", "another end of the line": line + "\r\n",
            "a space before": " " + line + "\n", "a space behind": line + " \n", "a word more": line + " dq\n",
        }
        for why, text in faults.items():
            with self.subTest(why=why):
                self.refuse((2, 4), text)
        words = line.split(" ")
        for place, wrong_words in enumerate([
                ["", "C", "h", "s", "x", "cd", "-1", "0", "N", "nn", "-"],
                ["", ".", ".jq", ".qjj", ".qj.", "..qj", ".5", ".QJ", "qj", "cq", "-.qj", ".aqj", ".kqj"],
                [".aq", "a.a", ".aj", "", ".A"], [".qj", "qjk.", "ak."], ["q.", "k.", ".k", ".a", "a", "aa."],
                ["", "4", "-1", "02", "p", "2.0", "+2", "22", "\u0662", "."],
                ["", "-", "..", "dk-", "-ck", "dk--ck", "dk.ck", "dkck", "dk,ck", "kd-ck", "hk", "dk-cj", "ca", "da-ck",
                 "DK"],
                ["", ".", "qd", "dt", "hq", "d", "q", "dqq", "DQ", "dk-ck", "5"]]):
            for word in wrong_words:
                changed = " ".join(words[:place] + [word] + words[place + 1:]) + "\n"
                right = plain_read((2, 4), changed)
                if right is not None:
                    self.assertEqual(read_paper((2, 4), changed), right)
                    self.assertIn((place, word), [(1, "."), (2, "."), (3, "ak.")])
                else:
                    self.refuse((2, 4), changed)
            missing = " ".join(words[:place] + words[place + 1:]) + "\n"
            self.refuse((2, 4), missing)

    def test_cards_in_two_places(self):
        for text in ("n a a   0 . ca\n", "n ak a q j 0 . ca\n", "n a k q q 0 . ca\n", "n a k q j 0 ca cq\n",
                     "n a k q j 0 cj cq\n", "n a k q  0 cj-cq cq\n", "n j   j 0 . cj\n"):
            self.refuse((1, 4), text)
        self.refuse((2, 2), "n .a .k .a a. 0 . ca\n")
        self.refuse((2, 2), "n .a .k . a. 0 da da\n")
        self.refuse((2, 2), "n .a .k . . 0 da-ck da\n")

    def test_entries_that_do_not_ascend(self):
        first, second = EXAMPLE_TEXT.splitlines(keepends=True)
        self.refuse((1, 4), second + first)
        self.refuse((1, 4), first + first)
        self.refuse((1, 4), first + second + second)
        self.refuse((1, 4), first + second + first)
        # One position twice, even with a greater card the second time.
        self.refuse((1, 4), first.replace("ca\n", "ck\n") + first)
        self.refuse((1, 4), "c a k q j 0 . ca\nn a k q j 0 . ca\n")
        self.refuse((1, 4), "n a k q j 1 . ca\nn a k q j 0 . ca\n")
        self.refuse((1, 4), "n a k q  0 cj ca\nn a k q  0 . ca\n")
        right = "n a k q  0 . ca\nn a k q  0 cj ca\nn a k q  1 . cj\nc  k q  1 . cj\n"
        self.assertEqual(len(read_paper((1, 4), right)), 4)

    def test_all_small_changes(self):
        for deck, text in (((1, 4), EXAMPLE_TEXT), ((2, 3), "n .k .a q. k. 3 da-cq dk\nd .k . q. . 1 da dk\n"),
                           ((1, 4), ""), ((2, 2), "c a.a . . . 0 ck ca\n")):
            for changed in edits(text, "nc d.-0q4\n"):
                right = plain_read(deck, changed)
                with self.subTest(deck=deck, text=changed):
                    if right is None:
                        with self.assertRaises(InvalidText):
                            read_paper(deck, changed)
                    else:
                        self.assertEqual(read_paper(deck, changed), right)
                        self.assertEqual(paper_text(deck, right), changed)


if __name__ == "__main__":
    unittest.main()
