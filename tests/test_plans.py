import time
import unittest

from finesse.chances import card_chances, share_chances
from finesse.errors import PlayOver, TooMany
from finesse.plans import best_plan, plan_chance, plan_wins
from finesse.play import Play, play_at
from finesse.views import count_fits, view_of_play

from tests.naive_plans import all_plans, plain_positions, plain_sets, plain_wins
from tests.naive_play import plain_shares, some_deals, state, trumps_of, walked
from tests.naive_views import lowest

SMALL = [((1, 4), 1), ((1, 5), 1), ((2, 2), 1), ((2, 3), 1), ((1, 8), 2), ((2, 4), 2), ((4, 2), 2)]
GREATER = [((1, 12), 3), ((2, 6), 3), ((3, 4), 3), ((4, 3), 3), ((3, 3), 2)]
GUESS = ((1, 8), (0b00000011, 0b10000100, 0b01010000, 0b00101000), -1, 0)
# Plays with exactly 200 and with 201 fits.
OF_200 = [
    ((2, 13), (4252704, 3932169, 8522064, 16847490), 1, 3, [24, 22, 21, 23, 16, 15, 18, 17, 19, 8, 12, 14]),
    ((3, 6), (20485, 1794, 34960, 73768), 0, 3, [16, 12, 10]),
]
OF_201 = ((3, 7), (18720, 9346, 1638408, 32852), 1, 2, [20, 15, 14, 10, 7, 19, 4])


def some_plays(decks, deals, every=1, trumps=None):
    for deck, size in decks:
        for step, hands in enumerate(some_deals(deck, size, deals, 5)):
            for trump in trumps or [trumps_of(deck)[step % (deck[0] + 1)]]:
                for cards in range(0, 4 * size, every):
                    yield walked(deck, hands, trump, step + cards, step + 1, cards)


def put_all(deck, hands, trump, leader, cards):
    play = Play(deck, hands, trump, leader)
    for card in cards:
        play.put(card)
    return play


def forced_tricks(play):
    """For each fit, in order, the share of the side that has the turn."""
    known = {}
    return {position[1]: plain_shares(play.deck(), position, known)[play.turn() % 2] for position in plain_positions(play)}


class Winning(unittest.TestCase):
    def check_plan(self, play, goal, plan):
        positions = plain_positions(play)
        before = state(play)
        kept = dict(plan)
        expected = [position[1] for position in positions
                    if plain_wins(play.deck(), play.turn() % 2, position, goal, plan)]
        self.assertEqual(plan_wins(play, goal, plan), expected)
        self.assertEqual(plan_chance(play, goal, plan), lowest(len(expected), len(positions)))
        self.assertEqual((state(play), plan), (before, kept))
        return len(expected)

    def test_many_plans(self):
        some = 0
        for play in some_plays(SMALL, 10):
            side = play.turn() % 2
            positions = dict(enumerate(plain_positions(play)))
            for goal in range(play.left() + 1):
                plans = all_plans(play.deck(), side, positions, goal)
                for plan in plans[::1 + len(plans) // 5]:
                    with self.subTest(position=play.position(), goal=goal, plan=plan):
                        for other_goal in (goal - 1, goal, goal + 1):
                            some += 0 < self.check_plan(play, other_goal, plan) < len(positions)
        self.assertGreater(some, 80)

    def test_plans_with_faults(self):
        for play in some_plays(SMALL[4:], 2, 3):
            side = play.turn() % 2
            positions = dict(enumerate(plain_positions(play)))
            for goal in range(1, play.left() + 1):
                for plan in all_plans(play.deck(), side, positions, goal)[:2]:
                    for seen in list(plan)[:6]:
                        with self.subTest(position=play.position(), goal=goal, plan=plan, seen=seen):
                            self.check_plan(play, goal, {key: plan[key] for key in plan if key != seen})
                            for card in (-1, 0, 3, 5, 7, 99, 10 ** 30):
                                self.check_plan(play, goal, {**plan, seen: card})
                            self.check_plan(play, goal, {**plan, (): plan[seen], seen + (1,): 2, (99, -5): 0})

    def test_an_empty_plan(self):
        for play in some_plays(SMALL + GREATER[:2], 2, 2):
            positions = plain_positions(play)
            for goal in (0, -1, -10 ** 20):
                self.assertEqual(plan_wins(play, goal, {}), [position[1] for position in positions])
                self.assertEqual(plan_chance(play, goal, {}), (1, 1))
            for goal in (1, play.left(), play.left() + 1, 10 ** 20):
                self.assertEqual(plan_wins(play, goal, {}), [])
                self.assertEqual(plan_chance(play, goal, {}), (0, 1))

    def test_an_empty_plan_may_do_if_the_last_card_is_not_the_own_one(self):
        # The partner's ace lies in the trick; player 3 puts the last card.
        play = put_all((1, 4), (1, 2, 8, 4), -1, 0, [0, 1])
        self.assertEqual(plan_wins(play, 1, {(): 3}), [(0, 0, 8, 4)])
        self.assertEqual(plan_wins(play, 1, {}), [])

    def test_example_of_the_interface(self):
        play = Play((1, 4), (8, 4, 2, 1), -1, 0)
        plan = {(): 3, (3, 0): 1, (3, 2): 1}
        self.assertEqual(plan_chance(play, 1, plan), (1, 1))
        self.assertEqual(plan_wins(play, 1, plan), [(8, 1, 2, 4), (8, 4, 2, 1)])
        # What is not told is needed: the trick is won only when it is complete.
        self.assertEqual(plan_wins(play, 1, {(): 3, (3, 0): 1}), [(8, 1, 2, 4)])
        self.assertEqual(plan_wins(play, 1, {(): 3, (3, 2): 1}), [(8, 4, 2, 1)])
        self.assertEqual(plan_wins(play, 1, {(): 3, (3, 0): 2, (3, 2): 1}), [(8, 4, 2, 1)])
        self.assertEqual(plan_wins(play, 1, {(3, 0): 1, (3, 2): 1}), [])
        self.assertEqual(plan_chance(play, 2, plan), (0, 1))
        self.assertEqual(plan_chance(play, 0, plan), (1, 1))

    def test_as_soon_as_the_goal_is_reached(self):
        # The first trick is won by the ace; then nothing more has to be told.
        play = Play((1, 8), (0b10000001, 0b1100, 0b110000, 0b1000010), -1, 0)
        plan = {(): 7}
        for card in (1, 2, 3, 6):
            plan[(7, card)] = 4
        self.assertEqual(plan_chance(play, 1, plan), (1, 1))
        self.assertEqual(plan_chance(play, 2, plan), (0, 1))

    def test_the_same_card_in_different_fits(self):
        # Behind the low card of player 1, the partner has to choose between queen and ace.
        play = Play((1, 8), (0b00000011, 0b00001100, 0b10100000, 0b01010000), -1, 0)
        low = [2, 3, 4]
        finesse = {(): 0, (0, 6): 7}
        for card in low:
            finesse[(0, card)] = 5
        rest = dict(finesse)
        for first in low + [6]:
            for second in low + [6]:
                taken = (0, first, finesse[(0, first)], second)
                rest[taken] = 12 - finesse[(0, first)]
                for third in low + [6]:
                    rest[taken + (12 - finesse[(0, first)], third)] = 1
        self.assertEqual(plan_wins(play, 2, rest),
                         [hands for hands in plan_wins(play, 0, {}) if hands[1] & 64])
        self.assertEqual(plan_chance(play, 2, rest), (1, 2))
        self.assertEqual(plan_chance(play, 2, best_plan(play, 2)), (1, 2))
        self.assertEqual(plan_chance(play, 1, best_plan(play, 1)), (1, 1))

    def test_kinds_and_new_lists(self):
        play = Play((1, 4), (8, 4, 2, 1), -1, 0)
        plan = {(): 3, (3, 0): 1, (3, 2): 1}
        found = plan_wins(play, 1, plan)
        self.assertEqual([type(found), type(found[0]), type(plan_chance(play, 1, plan))], [list, tuple, tuple])
        found.clear()
        self.assertEqual(len(plan_wins(play, 1, plan)), 2)


class BestPlans(unittest.TestCase):
    def check_kinds(self, plan):
        self.assertIs(type(plan), dict)
        for seen, card in plan.items():
            self.assertEqual((type(seen), type(card)), (tuple, int))

    def test_no_plan_wins_in_more_fits(self):
        fewer_than_forced = 0
        for play in list(some_plays(SMALL, 6)) + [Play(*GUESS)]:
            side = play.turn() % 2
            positions = dict(enumerate(plain_positions(play)))
            shares = forced_tricks(play)
            before = state(play)
            for goal in range(play.left() + 2):
                plans = all_plans(play.deck(), side, positions, goal)
                most = max(sum(plain_wins(play.deck(), side, position, goal, plan) for position in positions.values())
                           for plan in plans)
                with self.subTest(position=play.position(), goal=goal):
                    plan = best_plan(play, goal)
                    self.check_kinds(plan)
                    self.assertEqual(state(play), before)
                    self.assertEqual(len(plan_wins(play, goal, plan)), most)
                    self.assertEqual(plan_chance(play, goal, plan), lowest(most, len(positions)))
                    forced = len([tricks for tricks in shares.values() if tricks >= goal])
                    self.assertLessEqual(most, forced)
                    fewer_than_forced += most < forced
        self.assertGreater(fewer_than_forced, 0)

    def test_greater_plays_by_the_sets_of_fits(self):
        fewer_than_forced = 0
        for play in some_plays(GREATER[1:], 6, 3):
            if count_fits(view_of_play(play, play.turn(), (play.turn() + 2) % 4)) > 20:
                continue
            side = play.turn() % 2
            positions = dict(enumerate(plain_positions(play)))
            shares = forced_tricks(play)
            for goal in range(1, play.left() + 1):
                most = max(len(some) for some in plain_sets(play.deck(), side, positions, goal))
                with self.subTest(position=play.position(), goal=goal):
                    wins = plan_wins(play, goal, best_plan(play, goal))
                    self.assertEqual(len(wins), most)
                    forced = [hands for hands in shares if shares[hands] >= goal]
                    self.assertEqual([hands for hands in wins if hands not in forced], [])
                    fewer_than_forced += most < len(forced)
        self.assertGreater(fewer_than_forced, 1)

    def test_a_guess(self):
        # The partner has the king and the jack; it is not seen which of the others has the ace,
        # and which one the queen.
        play = Play(*GUESS)
        self.assertEqual(share_chances(play, 2), [(1, 6), (5, 6), (0, 1)])
        plan = best_plan(play, 1)
        self.assertEqual(plan_chance(play, 1, plan), (1, 2))
        self.assertEqual(len(plan_wins(play, 1, plan)), 3)

    def test_goals_of_0_and_less_and_too_great_ones(self):
        for play in some_plays(SMALL + GREATER, 1, 3):
            count = count_fits(view_of_play(play, play.turn(), (play.turn() + 2) % 4))
            for goal in (0, -1, -10 ** 20):
                self.assertEqual(len(plan_wins(play, goal, best_plan(play, goal))), count)
            for goal in (play.left() + 1, 10 ** 20):
                plan = best_plan(play, goal)
                self.check_kinds(plan)
                self.assertEqual(plan_wins(play, goal, plan), [])

    def test_plans_are_new(self):
        play = Play((1, 4), (8, 4, 2, 1), -1, 0)
        best_plan(play, 1).clear()
        self.assertEqual(plan_chance(play, 1, best_plan(play, 1)), (1, 1))

    def test_a_play_in_the_middle_of_a_trick(self):
        # The queen is led to the ace and the king; what is seen begins behind these cards.
        play = put_all((1, 8), (0b00100001, 0b01000010, 0b10000100, 0b00011000), -1, 0, [5, 6])
        plan = best_plan(play, 1)
        self.assertEqual(plan_chance(play, 1, plan), (1, 1))
        self.assertEqual(plan_chance(play, 2, best_plan(play, 2)), (0, 1))
        begun = play_at((1, 8), play.position())
        self.assertEqual(plan_chance(begun, 1, best_plan(begun, 1)), (1, 1))
        # The trick that has been begun counts for the player who puts its last card, too.
        play.put(7)
        play.put(3)
        play.take_back()
        self.assertEqual(play.turn(), 3)
        self.assertEqual(plan_chance(play, 1, {(): 3}), (0, 1))
        self.assertEqual(plan_chance(play, 0, {}), (1, 1))

    def test_in_moments(self):
        began = time.perf_counter()
        for deck, size in GREATER[:4]:
            for step, hands in enumerate(some_deals(deck, size, 6, 3)):
                play = Play(deck, hands, trumps_of(deck)[step % (deck[0] + 1)], step % 4)
                for goal in range(5):
                    plan = best_plan(play, goal)
                    self.assertLessEqual(len(plan_wins(play, goal, plan)), 20)
        # This takes about a second.
        self.assertLess(time.perf_counter() - began, 60)


    def test_four_cards_in_each_hand(self):
        # Nothing is promised of the time; going through all sets of fits would need minutes here.
        began = time.perf_counter()
        for hands, trump, leader, goal, wins in (((40996, 19457, 600, 4482), 1, 3, 3, 45),
                                                 ((33552, 17537, 8234, 6212), 0, 1, 3, 18),
                                                 ((33552, 17537, 8234, 6212), 1, 1, 2, 64)):
            play = Play((2, 8), hands, trump, leader)
            plan = best_plan(play, goal)
            self.check_kinds(plan)
            self.assertEqual(len(plan_wins(play, goal, plan)), wins)
        # This takes about two seconds.
        self.assertLess(time.perf_counter() - began, 60)


class Errors(unittest.TestCase):
    def test_a_play_that_is_over(self):
        for play in (walked((1, 4), (1, 2, 4, 8), -1, 2, 1, 4), play_at((4, 13), (3, (0, 0, 0, 0), 1, ()))):
            for goal in (-1, 0, 1, 14):
                for function in (lambda: plan_wins(play, goal, {}), lambda: plan_chance(play, goal, {(): 1}),
                                 lambda: best_plan(play, goal)):
                    with self.assertRaises(PlayOver):
                        function()

    def test_200_fits(self):
        for deck, hands, trump, leader, cards in OF_200:
            play = put_all(deck, hands, trump, leader, cards)
            self.assertEqual(count_fits(view_of_play(play, play.turn(), (play.turn() + 2) % 4)), 200)
            for goal in (-1, 0, 1, 2, play.left() + 1):
                plan = best_plan(play, goal)
                wins = plan_wins(play, goal, plan)
                self.assertEqual(plan_chance(play, goal, plan), lowest(len(wins), 200))
                self.assertEqual(len(wins), 200 if goal <= 0 else 0 if goal > play.left() else len(wins))
                shares = share_chances(play, (play.turn() + 2) % 4)
                forced = sum(part * 200 // whole for part, whole in shares[max(goal, 0):])
                self.assertLessEqual(len(wins), forced)

    def test_more_than_200_fits(self):
        hands = tuple((2 ** 13 - 1) << 13 * player for player in range(4))
        for play in (put_all(*OF_201), Play((4, 13), hands, 2, 3), Play((1, 11), (3, 12, 48, 192), -1, 0)):
            self.assertGreater(count_fits(view_of_play(play, play.turn(), (play.turn() + 2) % 4)), 200)
            before = state(play)
            for goal in (-1, 0, 1, 99):
                for function in (lambda: plan_wins(play, goal, {}), lambda: plan_chance(play, goal, {}),
                                 lambda: best_plan(play, goal)):
                    with self.assertRaises(TooMany):
                        function()
            self.assertEqual(state(play), before)


class Agreement(unittest.TestCase):
    def test_a_plan_wins_at_most_as_often_as_its_first_card(self):
        for play in some_plays(GREATER, 2, 3):
            partner = (play.turn() + 2) % 4
            if count_fits(view_of_play(play, play.turn(), partner)) > 60:
                continue
            shares = share_chances(play, partner)
            for goal in range(1, play.left() + 1):
                plan = best_plan(play, goal)
                part, whole = plan_chance(play, goal, plan)
                self.assertLessEqual(part / whole, sum(a / b for a, b in shares[goal:]) + 1e-9)
                if part:
                    first, of = card_chances(play, partner, goal)[plan[()]]
                    self.assertLessEqual(part * of, first * whole)


if __name__ == "__main__":
    unittest.main()
