import time
import unittest
from itertools import product

from finesse.errors import WrongPaper
from finesse.forced import share
from finesse.play import Play, play_at
from finesse.strategy import follow, paper_for, paper_holds, shortened

from tests.naive_play import (
    PLAY_DECKS, plain_after, plain_left, plain_legal, plain_shares, plain_turn, some_deals, state, trumps_of, walked,
)

EXAMPLE = (((-1, (0, 0, 0, 8), 0, (0, 1, 2)), 3), ((-1, (0, 2, 4, 8), 0, (0,)), 1))
NOT_CARDS = [-1, -2, 4, 99, 10 ** 30, -10 ** 30]


def some_plays(decks, deals, every=1):
    for deck, size in decks:
        for step, hands in enumerate(some_deals(deck, size, deals, 3)):
            for trump in trumps_of(deck):
                for cards in range(0, 4 * size + 1, every):
                    yield walked(deck, hands, trump, (step + trump + cards) % 4, step, cards)


def plain_reached(deck, side, position, missing, told, reached):
    """Whether a paper holds by point 8.2, and all positions of the side that are reached by it."""
    if missing <= 0:
        return True
    if not plain_left(position):
        return False
    cards = plain_legal(deck, position)
    if plain_turn(position) % 2 == side:
        reached.add(position)
        if told.get(position) not in cards:
            return False
        cards = [told[position]]
    results = []
    for card in cards:
        after = plain_after(deck, position, card)
        won = 1 if not after[3] and after[2] % 2 == side else 0
        results.append(plain_reached(deck, side, after, missing - won, told, reached))
    return all(results)


def plain_holds(play, side, goal, paper):
    return plain_reached(play.deck(), side, play.position(), goal, dict(paper), set())


def with_card(paper, place, card):
    changed = list(paper)
    changed[place] = (paper[place][0], card)
    return tuple(changed)


def without(paper, place):
    return paper[:place] + paper[place + 1:]


def own_positions(deck, side, position, found):
    """All positions from one on in which a side has the turn."""
    if plain_turn(position) % 2 == side and plain_left(position):
        found.add(position)
    for card in plain_legal(deck, position):
        own_positions(deck, side, plain_after(deck, position, card), found)
    return found


class PaperHolds(unittest.TestCase):
    def test_examples_of_the_interface(self):
        play = Play((1, 4), (1, 2, 4, 8), -1, 0)
        self.assertIs(paper_holds(play, 1, 1, EXAMPLE), True)
        self.assertIs(paper_holds(play, 0, 0, ()), True)

    def test_the_example_with_faults(self):
        play = Play((1, 4), (1, 2, 4, 8), -1, 0)
        self.assertIs(paper_holds(play, 1, 2, EXAMPLE), False)
        self.assertIs(paper_holds(play, 0, 1, EXAMPLE), False)
        for place in (0, 1):
            self.assertIs(paper_holds(play, 1, 1, without(EXAMPLE, place)), False)
            for card in NOT_CARDS + [0, 2]:
                self.assertIs(paper_holds(play, 1, 1, with_card(EXAMPLE, place, card)), False)
                self.assertIs(paper_holds(play, 1, 0, with_card(EXAMPLE, place, card)), True)

    def test_a_goal_of_0_or_less(self):
        for cards in range(5):
            play = walked((1, 4), (1, 2, 4, 8), -1, 2, 1, cards)
            for side, goal, paper in product((0, 1), (0, -1, -10 ** 30), ((), EXAMPLE)):
                self.assertIs(paper_holds(play, side, goal, paper), True)

    def test_the_empty_paper(self):
        play = Play((2, 4), (3, 12, 48, 192), -1, 0)
        for side, goal in product((0, 1), (1, 2, 3, 10 ** 30)):
            self.assertIs(paper_holds(play, side, goal, ()), False)
        # Nobody of side 0 puts a card before its side has won the trick.
        play = play_at((2, 4), (-1, (2, 4, 16, 12 * 16), 0, (3, 2, 1)))
        self.assertIs(paper_holds(play, 0, 1, ()), True)
        self.assertIs(paper_holds(play, 0, 2, ()), False)
        self.assertIs(paper_holds(play, 1, 1, ()), False)

    def test_the_end(self):
        play = walked((1, 4), (1, 2, 4, 8), -1, 2, 1, 4)
        for side in (0, 1):
            self.assertIs(paper_holds(play, side, 0, ()), True)
            self.assertIs(paper_holds(play, side, 1, EXAMPLE), False)
        self.assertIs(paper_holds(play, 0, 1, (((-1, (0, 0, 0, 0), 3, ()), 0),)), False)

    def test_changed_papers_by_the_plain_words(self):
        for play in some_plays(PLAY_DECKS[:9], 2, 2):
            for side in (0, 1):
                paper = paper_for(play, side)
                self.compare_all_goals(play, side, paper)
                for place in range(0, len(paper), 3):
                    self.compare_all_goals(play, side, without(paper, place))
                    for card in plain_legal(play.deck(), paper[place][0]) + [-1, 99]:
                        self.compare_all_goals(play, side, with_card(paper, place, card))

    def compare_all_goals(self, play, side, paper):
        for goal in range(-1, play.left() + 2):
            with self.subTest(position=play.position(), side=side, goal=goal, paper=paper):
                self.assertIs(paper_holds(play, side, goal, paper), plain_holds(play, side, goal, paper))

    def test_positions_that_are_not_reached_do_not_matter(self):
        play = Play((1, 4), (1, 2, 4, 8), -1, 0)
        for card in NOT_CARDS + [0, 1, 2, 3]:
            for position in ((-1, (0, 2, 0, 8), 1, (0, 2)), (0, (0, 2, 4, 8), 0, (0,)), (-1, (0, 2, 4, 8), 0, (1,)),
                             (-1, (0, 0, 0, 0), 1, ()), (-1, (0, 2, 4, 8), 2, (0,))):
                paper = tuple(sorted(EXAMPLE + ((position, card),)))
                self.assertIs(paper_holds(play, 1, 1, paper), True)

    def test_nothing_need_be_told_behind_the_goal(self):
        play = Play((4, 2), (3, 12, 48, 192), 0, 0)
        first = (((0, (3, 12, 48, 192), 0, ()), 0),)
        second = (((0, (2, 8, 48, 128), 0, (0, 2)), 4),)
        other_ways = tuple(((0, (2, 12 - 4 * a, 48, 192), 0, (0, c)), 4) for a, c in ((1, 2), (2, 3)))
        self.assertIs(paper_holds(play, 0, 1, first + second), False)
        self.assertIs(paper_holds(play, 0, 1, tuple(sorted(first + other_ways))), True)
        self.assertIs(paper_holds(play, 0, 2, tuple(sorted(first + other_ways))), False)

    def test_the_tricks_before_do_not_count(self):
        for step in range(4):
            play = walked((2, 4), (9, 36, 66, 144), 1, step, 1, 4)
            later = play_at((2, 4), play.position())
            for side in (0, 1):
                paper = paper_for(later, side)
                for goal in range(4):
                    self.assertIs(paper_holds(play, side, goal, paper), paper_holds(later, side, goal, paper))

    def test_the_same_position_is_not_gone_through_again_and_again(self):
        # Everybody has an own suit, so the other side can put its 7 cards each in 7! orders each.
        suit = 2 ** 7 - 1
        play = Play((4, 7), (suit, suit << 7, suit << 14, suit << 21), 0, 0)
        paper = self.paper_of_least_cards(play.position())
        self.assertIs(paper_holds(play, 0, 7, paper), True)
        self.assertIs(paper_holds(play, 0, 7, with_card(paper, 0, 99)), False)
        self.assertEqual(shortened(play, 0, 7, paper), paper)

    def paper_of_least_cards(self, position):
        told, waiting = {}, [position]
        while waiting:
            position = waiting.pop()
            legal = plain_legal((4, 7), position)
            if legal and position not in told:
                if plain_turn(position) % 2 == 0:
                    legal = legal[:1]
                    told[position] = legal[0]
                waiting += [plain_after((4, 7), position, card) for card in legal]
        return tuple(sorted(told.items()))


class PaperFor(unittest.TestCase):
    def test_it_holds_for_the_share_and_for_no_more(self):
        for play in some_plays(PLAY_DECKS, 2, 3):
            shares = plain_shares(play.deck(), play.position())
            for side in (0, 1):
                with self.subTest(position=play.position(), side=side):
                    self.check(play, side, shares[side])

    def test_four_cards(self):
        for play in some_plays([((4, 4), 4), ((2, 8), 4), ((3, 6), 4)], 2, 5):
            for side in (0, 1):
                self.check(play, side, share(play, side))

    def check(self, play, side, goal):
        before = state(play)
        paper = paper_for(play, side)
        self.assertEqual(state(play), before)
        self.assertIs(type(paper), tuple)
        self.assertEqual(list(paper), sorted(dict(paper).items()))
        for position, card in paper:
            self.assertEqual(plain_turn(position) % 2, side)
            self.assertIn(card, plain_legal(play.deck(), position))
        self.assertIs(plain_holds(play, side, goal, paper), True)
        self.assertIs(paper_holds(play, side, goal, paper), True)
        self.assertIs(paper_holds(play, side, goal + 1, paper), False)

    def test_no_paper_holds_for_more(self):
        tried = 0
        for play in some_plays(PLAY_DECKS[:9], 4, 1):
            for side in (0, 1):
                tried += self.try_all_papers(play, side)
        self.assertGreater(tried, 5000)

    def try_all_papers(self, play, side):
        positions = sorted(own_positions(play.deck(), side, play.position(), set()))
        many = 1
        for position in positions:
            many *= len(plain_legal(play.deck(), position))
        if many > 2000:
            return 0
        for cards in product(*[plain_legal(play.deck(), position) for position in positions]):
            paper = tuple(zip(positions, cards))
            with self.subTest(position=play.position(), side=side, paper=paper):
                self.assertIs(paper_holds(play, side, share(play, side) + 1, paper), False)
        return many

    def test_the_end(self):
        for side in (0, 1):
            self.check(walked((1, 4), (1, 2, 4, 8), -1, 2, 1, 4), side, 0)

    def test_many_ways_to_the_same_positions(self):
        # The other side can put its 7 cards each in 7! orders each.
        suit = 2 ** 7 - 1
        play = Play((4, 7), (suit, suit << 7, suit << 14, suit << 21), 0, 2)
        self.assertEqual((share(play, 0), share(play, 1)), (7, 0))
        self.assertIs(paper_holds(play, 0, 7, paper_for(play, 0)), True)
        self.assertIs(paper_holds(play, 1, 0, paper_for(play, 1)), True)


class Follow(unittest.TestCase):
    def plain_follow(self, play, side, paper, picks):
        told, position, cards, tricks, k = dict(paper), play.position(), [], 0, 0
        while plain_left(position):
            legal = plain_legal(play.deck(), position)
            if plain_turn(position) % 2 == side:
                card = told[position] if told.get(position) in legal else min(legal)
            else:
                card = legal[(picks[k] if k < len(picks) else 0) % len(legal)]
                k += 1
            cards.append(card)
            position = plain_after(play.deck(), position, card)
            tricks += not position[3] and position[2] % 2 == side
        return (cards, tricks)

    def test_by_the_plain_words(self):
        all_picks = [[], [1], [0, 1, 2, 3, 4, 5, 6], [7, 5, 3, 2, 9, 8, 1], [10 ** 30, 3, 10 ** 30 + 1], [1] * 20]
        for play in some_plays(PLAY_DECKS[4:], 2, 2):
            for side in (0, 1):
                paper, goal = paper_for(play, side), share(play, side)
                for picks in all_picks:
                    with self.subTest(position=play.position(), side=side, picks=picks):
                        result = follow(play, side, paper, picks)
                        self.assertEqual(result, self.plain_follow(play, side, paper, picks))
                        self.assertGreaterEqual(result[1], goal)
                        for other in ((), paper[::2], with_card(paper, 0, 99) if paper else ()):
                            self.assertEqual(follow(play, side, other, picks),
                                             self.plain_follow(play, side, other, picks))

    def test_written_out(self):
        play = Play((2, 4), (3, 12, 48, 192), -1, 0)
        self.assertEqual(follow(play, 0, (), []), ([0, 2, 4, 6, 3, 5, 7, 1], 0))
        self.assertEqual(follow(play, 0, (), [1]), ([0, 3, 4, 6, 2, 5, 7, 1], 0))
        self.assertEqual(follow(play, 0, (), [0, 1]), ([0, 2, 4, 7, 3, 5, 6, 1], 0))
        self.assertEqual(follow(play, 0, (), [2, 3, 1]), ([0, 2, 4, 7, 3, 5, 6, 1], 0))
        self.assertEqual(follow(play, 1, (), [1]), ([1, 2, 4, 6, 3, 5, 7, 0], 2))
        self.assertEqual(follow(play, 0, (((-1, (3, 12, 48, 192), 0, ()), 1),), []), ([1, 2, 4, 6, 3, 5, 7, 0], 0))
        self.assertEqual(follow(play, 0, (((-1, (3, 12, 48, 192), 0, ()), 2),), []), ([0, 2, 4, 6, 3, 5, 7, 1], 0))

    def test_a_trick_that_is_begun_counts_and_earlier_ones_do_not(self):
        play = play_at((2, 4), (-1, (2, 4, 16, 192), 0, (3, 2, 1)))
        play.put(6)
        self.assertEqual((play.tricks(0), follow(play, 0, (), [])), (1, ([1, 2, 4, 7], 0)))
        play.take_back()
        self.assertEqual(follow(play, 0, (), []), ([6, 1, 2, 4, 7], 1))

    def test_kinds_and_the_end(self):
        play = walked((1, 4), (1, 2, 4, 8), -1, 2, 1, 4)
        self.assertEqual(follow(play, 0, EXAMPLE, [1, 2]), ([], 0))
        result = follow(Play((1, 4), (1, 2, 4, 8), -1, 0), 1, EXAMPLE, [])
        self.assertEqual(result, ([0, 1, 2, 3], 1))
        self.assertEqual([type(result), type(result[0]), type(result[1])], [tuple, list, int])

    def test_nothing_is_changed(self):
        play = walked((2, 4), (9, 36, 66, 144), 1, 0, 1, 3)
        before, picks = state(play), [3, 1]
        follow(play, 0, (), picks)
        follow(play, 1, paper_for(play, 1), picks)
        self.assertEqual((state(play), picks), (before, [3, 1]))


class Shortened(unittest.TestCase):
    def test_by_the_plain_words(self):
        for play in some_plays(PLAY_DECKS[:10], 2, 3):
            for side in (0, 1):
                paper = self.whole_paper(play, side)
                for goal in range(-1, share(play, side) + 2):
                    with self.subTest(position=play.position(), side=side, goal=goal):
                        self.compare(play, side, goal, paper)

    def whole_paper(self, play, side):
        """A paper with an entry for each position of the side that could ever come."""
        told = {position: plain_legal(play.deck(), position)[0]
                for position in own_positions(play.deck(), side, play.position(), set())}
        for position, card in paper_for(play, side):
            told[position] = card
        return tuple(sorted(told.items()))

    def compare(self, play, side, goal, paper):
        reached = set()
        if not plain_reached(play.deck(), side, play.position(), goal, dict(paper), reached):
            with self.assertRaises(WrongPaper):
                shortened(play, side, goal, paper)
            return
        short = shortened(play, side, goal, paper)
        self.assertIs(type(short), tuple)
        self.assertEqual(short, tuple(entry for entry in paper if entry[0] in reached))
        self.assertIs(paper_holds(play, side, goal, short), True)
        self.assertEqual(shortened(play, side, goal, short), short)
        for place in range(len(short)):
            self.assertIs(paper_holds(play, side, goal, without(short, place)), False)
            with self.assertRaises(WrongPaper):
                shortened(play, side, goal, without(short, place))

    def test_examples(self):
        play = Play((1, 4), (1, 2, 4, 8), -1, 0)
        more = tuple(sorted(EXAMPLE + (((-1, (0, 2, 0, 8), 1, (0, 2)), 7),)))
        self.assertEqual(shortened(play, 1, 1, more), EXAMPLE)
        self.assertEqual(shortened(play, 1, 0, more), ())
        self.assertEqual(shortened(play, 0, -5, more), ())
        with self.assertRaises(WrongPaper):
            shortened(play, 1, 2, more)
        with self.assertRaises(WrongPaper):
            shortened(play, 0, 1, more)
        with self.assertRaises(WrongPaper):
            shortened(play, 1, 1, ())

    def test_the_play_stays_as_it_is(self):
        play = walked((2, 4), (9, 36, 66, 144), 1, 0, 1, 3)
        before = state(play)
        for side in (0, 1):
            paper = paper_for(play, side)
            paper_holds(play, side, 2, paper)
            shortened(play, side, share(play, side), paper)
        self.assertEqual(state(play), before)


class Time(unittest.TestCase):
    def test_papers_of_four_cards_are_found_in_moments(self):
        began = time.perf_counter()
        for deck, size in (((4, 4), 4), ((2, 8), 4), ((4, 13), 4)):
            for hands in some_deals(deck, size, 5, 11):
                for side in (0, 1):
                    play = Play(deck, hands, 0, 2)
                    self.assertIs(paper_holds(play, side, share(play, side), paper_for(play, side)), True)
        # This takes less than a second.
        self.assertLess(time.perf_counter() - began, 120)


if __name__ == "__main__":
    unittest.main()
