"""What the document promises over the whole program: its parts agree."""

import unittest
from itertools import permutations

from finesse.alike import standard, with_suits, with_trump
from finesse.cards import card_text
from finesse.chances import card_chances, share_chances
from finesse.claims import least_tricks, most_tricks
from finesse.conditions import Condition, chance_where, count_where
from finesse.console import run_console
from finesse.deals import deal_text, squeezed, turned
from finesse.forced import best_cards, card_shares, line_of, share
from finesse.numbering import spread
from finesse.par import par, table_of
from finesse.plans import best_plan, plan_chance, plan_wins
from finesse.play import Play, play_at
from finesse.scores import score_for
from finesse.strategy import follow, paper_for, paper_holds, shortened
from finesse.systems import System, boards, overlap, unused
from finesse.views import count_fits, fits, holding_chance, length_chances, view_of_play

from tests.naive_play import PLAY_DECKS, plain_shares, some_deals, state, trumps_of, walked
from tests.naive_views import lowest

DECKS = [(deck, size) for deck, size in PLAY_DECKS if size < 3] + [((2, 6), 3), ((3, 4), 3)]


def some_plays(deals=2, every=2):
    for deck, size in DECKS:
        for step, hands in enumerate(some_deals(deck, size, deals, 23)):
            trump = trumps_of(deck)[step % (deck[0] + 1)]
            for cards in range(0, 4 * size, every):
                yield walked(deck, hands, trump, step + cards, step + 2, cards)


def at_least(chances, goal):
    """The fraction of the fits in which the share is at least a goal, as a number of 10 ** 9 parts."""
    return sum(part * 10 ** 9 // whole for part, whole in chances[max(goal, 0):])


class SharesAndPapers(unittest.TestCase):
    def test_shares_papers_lines_and_claims_agree(self):
        for play in some_plays():
            shares = [share(play, 0), share(play, 1)]
            self.assertEqual(shares, list(plain_shares(play.deck(), play.position())))
            self.assertEqual(sum(shares), play.left())
            for side in (0, 1):
                with self.subTest(position=play.position(), side=side):
                    paper = paper_for(play, side)
                    self.assertTrue(paper_holds(play, side, shares[side], paper))
                    self.assertFalse(paper_holds(play, side, shares[side] + 1, paper))
                    # The paper of the other side shows that there is no more to win.
                    self.assertFalse(paper_holds(play, 1 - side, play.left() - shares[side] + 1, paper_for(play, 1 - side)))
                    self.assertTrue(paper_holds(play, side, shares[side], shortened(play, side, shares[side], paper)))
                    self.assertGreaterEqual(follow(play, side, paper, [5, 1, 2])[1], shares[side])
                    self.assertLessEqual(least_tricks(play, side), shares[side])
                    self.assertLessEqual(shares[side], most_tricks(play, side))
            self.assertEqual(max(card_shares(play).values()), shares[play.turn() % 2])
            ended = play.copy()
            for card in line_of(play):
                self.assertIn(card, best_cards(ended))
                ended.put(card)
            self.assertEqual([ended.tricks(side) - play.tricks(side) for side in (0, 1)], shares)


class ChancesAndPlans(unittest.TestCase):
    def test_chances_are_those_of_the_shares_in_all_fits(self):
        for play in some_plays():
            partner = (play.turn() + 2) % 4
            view = view_of_play(play, play.turn(), partner)
            if count_fits(view) > 60:
                continue
            trump, _, leader, led = play.position()
            fit_plays = [play_at(play.deck(), (trump, hands, leader, led)) for hands in fits(view)]
            shares = [share(other, play.turn() % 2) for other in fit_plays]
            with self.subTest(position=play.position()):
                self.assertIn(play.position(), [other.position() for other in fit_plays])
                self.assertEqual(share_chances(play, partner),
                                 [lowest(shares.count(k), len(shares)) for k in range(play.left() + 1)])
                for goal in range(play.left() + 2):
                    cards = {card: lowest(sum(card_shares(other)[card] >= goal for other in fit_plays), len(fit_plays))
                             for card in play.legal()}
                    self.assertEqual(card_chances(play, partner, goal), cards)

    def test_a_plan_wins_in_no_more_fits_than_the_shares_allow(self):
        for play in some_plays():
            side, partner = play.turn() % 2, (play.turn() + 2) % 4
            view = view_of_play(play, play.turn(), partner)
            if count_fits(view) > 60:
                continue
            trump, _, leader, led = play.position()
            chances = share_chances(play, partner)
            for goal in range(play.left() + 2):
                with self.subTest(position=play.position(), goal=goal):
                    plan = best_plan(play, goal)
                    wins = plan_wins(play, goal, plan)
                    for hands in wins:
                        self.assertGreaterEqual(share(play_at(play.deck(), (trump, hands, leader, led)), side), goal)
                    part, whole = plan_chance(play, goal, plan)
                    self.assertEqual((part, whole), lowest(len(wins), count_fits(view)))
                    self.assertLessEqual(part * 10 ** 9 // whole, at_least(chances, goal) + len(chances))
                    if count_fits(view) == 1:
                        self.assertEqual(len(wins), int(share(play, side) >= goal))

    def test_with_one_fit_plans_are_as_good_as_papers(self):
        # All cards of a deck without hidden choices: each other player has shown out of all but one suit.
        play = play_at((2, 4), (-1, (0b10000001, 0b1100, 0b01000010, 0b110000), 3, ()))
        for card in (4, 7, 2, 6):
            play.put(card)
        self.assertEqual(count_fits(view_of_play(play, play.turn(), (play.turn() + 2) % 4)), 1)
        for goal in range(3):
            wins = plan_wins(play, goal, best_plan(play, goal))
            self.assertEqual(len(wins) == 1, share(play, play.turn() % 2) >= goal)


class ConditionsAndViews(unittest.TestCase):
    def test_conditions_count_what_views_count(self):
        for play in some_plays(1, 3):
            deck = play.deck()
            view = view_of_play(play, play.turn(), -1)
            if count_fits(view) > 2000:
                continue
            self.assertEqual(count_where(view, Condition(deck, "0 = 0")), count_fits(view))
            for player in range(4):
                for card in range(0, deck[0] * deck[1], 3):
                    condition = Condition(deck, f"has({player}, {card_text(deck, card)})")
                    self.assertEqual(chance_where(view, condition), holding_chance(view, player, card))
                for suit in range(deck[0]):
                    chances = length_chances(view, player, suit)
                    for length, chance in enumerate(chances):
                        condition = Condition(deck, f"len({player}, {'cdhs'[suit]}) = {length}")
                        self.assertEqual(chance_where(view, condition), chance)


class AlikeDeals(unittest.TestCase):
    def test_alike_deals_have_the_same_shares(self):
        for deck, size in DECKS:
            for step, hands in enumerate(some_deals(deck, size, 3, 29)):
                for trump in trumps_of(deck):
                    leader = (step + trump) % 4
                    own = share(Play(deck, hands, trump, leader), leader % 2)
                    form = standard(deck, hands, trump, leader)
                    self.assertEqual(share(Play(form[0], form[1], form[2], 0), 0), own)
                    for order in permutations(range(deck[0])):
                        changed = with_suits(deck, turned(hands, 1), list(order))
                        small, changed = squeezed(deck, changed)
                        other_trump, other_leader = with_trump(trump, list(order)), (leader + 1) % 4
                        self.assertEqual(standard(small, changed, other_trump, other_leader), form)
                        self.assertEqual(share(Play(small, changed, other_trump, other_leader), other_leader % 2), own)


class BoardsOfAllParts(unittest.TestCase):
    def test_systems_tables_scores_and_the_console_agree(self):
        system = System((2, 4), 2, "- ; points(0) >= 4 ; 1c\n* ; points(0) >= 3 and len(0, d) >= 1 ; 1n\n* ; points(0) >= 4 ; X\n")
        deals = spread((2, 4), 2, 30)
        for hands, (contract, tricks) in zip(deals, boards(system, deals, 1)):
            auction = system.auction_for(hands, 1)
            self.assertEqual(auction.contract(), contract)
            table = table_of((2, 4), hands)
            lines = ["deck 2 4", "deal " + deal_text((2, 4), hands), "dealer 1", "vulnerable 0", "par", "table"]
            report = [f"par {par(table, 2, 1, [True, False])}"] + [" ".join(map(str, row)) for row in table]
            self.assertEqual(run_console("\n".join(lines)), "".join(line + "\n" for line in report))
            if contract is not None:
                level, strain, doubled, declarer = contract
                self.assertEqual(table[strain][declarer], tricks)
                play = Play((2, 4), hands, strain if strain < 2 else -1, (declarer + 1) % 4)
                self.assertEqual(share(play, declarer % 2), tricks)
                for card in line_of(play):
                    play.put(card)
                self.assertEqual(play.tricks(declarer % 2), tricks)
                calls = {("pass",): "P", ("double",): "X", ("redouble",): "XX"}
                words = [calls.get(call) or f"{call[1]}{'cdn'[call[2]]}" for call in auction.calls()]
                cards = [card_text((2, 4), card) for _, card in play.history()]
                lines = lines[:4] + ["call " + " ".join(words), "put " + " ".join(cards), "result"]
                points = score_for(2, 2, contract, tricks, [True, False], 0)
                self.assertEqual(run_console("\n".join(lines)), f"score {points}\n")


class ArgumentsAreKept(unittest.TestCase):
    def test_no_function_changes_what_it_is_given(self):
        deals = spread((1, 8), 2, 5)
        kept = list(deals)
        system = System((1, 8), 2, "- ; points(0) >= 4 ; 1c\n")
        for function in (lambda: system.counts(deals, 0), lambda: unused(system, deals, 0), lambda: boards(system, deals, 0)):
            function()
            self.assertEqual(deals, kept)
        self.assertEqual(overlap(system, (1, 8), "-"), [])
        order = [1, 0]
        with_suits((2, 4), (3, 12, 48, 192), order)
        with_trump(1, order)
        self.assertEqual(order, [1, 0])
        table, vulnerable = [[1, 0, 1, 0], [0, 1, 0, 1]], [True, False]
        par(table, 1, 0, vulnerable)
        self.assertEqual((table, vulnerable), ([[1, 0, 1, 0], [0, 1, 0, 1]], [True, False]))
        for play in some_plays(1, 3):
            before = state(play)
            partner = (play.turn() + 2) % 4
            if count_fits(view_of_play(play, play.turn(), partner)) <= 60:
                plan = {(): play.legal()[0]}
                plan_wins(play, 1, plan)
                plan_chance(play, 1, plan)
                best_plan(play, 1)
                share_chances(play, partner)
                card_chances(play, partner, 1)
                self.assertEqual(plan, {(): play.legal()[0]})
            least_tricks(play, 0)
            most_tricks(play, 1)
            self.assertEqual(state(play), before)


if __name__ == "__main__":
    unittest.main()
