import unittest
from itertools import product

from finesse.scores import compared, needed, score, score_for

NEITHER, BOTH = [False, False], [True, True]

# level, strain, doubled, tricks; the score without and with vulnerability; for 4 suits and hands of 13 cards
WRITTEN_OUT = [
    # without trumps and in each suit, made exactly
    (1, 4, 0, 7, 90, 90), (2, 4, 0, 8, 120, 120), (3, 4, 0, 9, 400, 600), (1, 0, 0, 7, 70, 70),
    (4, 0, 0, 10, 130, 130), (5, 0, 0, 11, 400, 600), (5, 1, 0, 11, 400, 600), (4, 1, 0, 10, 130, 130),
    (3, 2, 0, 9, 140, 140), (4, 2, 0, 10, 420, 620), (4, 3, 0, 10, 420, 620), (1, 3, 0, 7, 80, 80),
    # more tricks than the bid promises
    (1, 4, 0, 9, 150, 150), (1, 1, 0, 13, 190, 190), (4, 3, 0, 12, 480, 680), (3, 4, 0, 13, 520, 720),
    # one below the greatest level gets nothing more, the greatest one does
    (6, 4, 0, 12, 490, 690), (6, 4, 0, 13, 520, 720), (7, 4, 0, 13, 1020, 1470), (7, 0, 0, 13, 940, 1390),
    (7, 3, 1, 13, 1270, 1720), (7, 3, 2, 13, 1740, 2190),
    # doubled and redoubled, made
    (1, 0, 1, 7, 140, 140), (2, 1, 1, 8, 180, 180), (1, 4, 1, 7, 180, 180), (2, 4, 1, 8, 490, 690),
    (2, 2, 1, 8, 470, 670), (3, 0, 1, 9, 470, 670), (1, 4, 2, 7, 560, 760), (1, 0, 2, 7, 230, 230),
    (2, 0, 2, 8, 560, 760), (1, 2, 1, 9, 360, 560), (1, 2, 2, 9, 920, 1520), (1, 0, 1, 8, 240, 340),
    (1, 0, 2, 8, 430, 630),
    # fewer tricks than the bid promises
    (3, 4, 0, 8, -50, -100), (7, 0, 0, 0, -650, -1300), (4, 3, 0, 7, -150, -300),
    (4, 2, 1, 9, -100, -200), (4, 2, 1, 8, -300, -500), (4, 2, 1, 7, -500, -800), (4, 2, 1, 6, -800, -1100),
    (4, 2, 1, 5, -1100, -1400), (7, 4, 1, 0, -3500, -3800),
    (4, 2, 2, 9, -200, -400), (4, 2, 2, 8, -600, -1000), (4, 2, 2, 7, -1000, -1600), (4, 2, 2, 6, -1600, -2200),
    (7, 4, 2, 0, -7000, -7600),
]

# suits, size, level, strain, doubled, tricks; the score without and with vulnerability
SMALL = [
    # one suit: suits // 2 is 0, so its worth is 30
    (1, 1, 1, 0, 0, 1, 80, 80), (1, 1, 1, 1, 0, 1, 90, 90), (1, 1, 1, 1, 1, 1, 180, 180), (1, 1, 1, 0, 0, 0, -50, -100),
    (1, 1, 1, 1, 2, 1, 560, 760),
    # two suits: the first one is worth 20; size 2 has a book of 1 and one level
    (2, 2, 1, 0, 0, 2, 570, 820), (2, 2, 1, 1, 0, 2, 580, 830), (2, 2, 1, 2, 0, 2, 590, 840),
    (2, 2, 1, 0, 0, 1, -50, -100), (2, 2, 1, 0, 1, 0, -300, -500),
    # three suits: only the first one is worth 20; size 3 has a book of 1 and two levels
    (3, 3, 1, 0, 0, 2, 70, 70), (3, 3, 1, 1, 0, 2, 80, 80), (3, 3, 1, 2, 0, 3, 110, 110), (3, 3, 2, 3, 0, 3, 620, 870),
    (3, 3, 2, 0, 0, 3, 590, 840), (3, 3, 1, 3, 0, 3, 120, 120),
    # four suits: two of them are worth 20
    (4, 4, 1, 1, 0, 4, 90, 90), (4, 4, 1, 2, 0, 4, 110, 110), (4, 5, 3, 1, 0, 5, 610, 860),
    (4, 5, 2, 4, 0, 5, 150, 150),
]


def plain_score(suits, size, contract, tricks, in_danger):
    """The words of points 6.2 to 6.4, one after the other."""
    level, strain, doubled, _ = contract
    worth = 20 if strain in range(suits // 2) else 30
    promised = size // 2 + level
    if tricks >= promised:
        total = (level * worth + (10 if strain == suits else 0)) * [1, 2, 4][doubled]
        total += 50 if total < 100 else [300, 500][in_danger]
        total += [500, 750][in_danger] if level == size - size // 2 and size >= 2 else 0
        total += [0, 50, 100][doubled]
        for _ in range(tricks - promised):
            total += [[worth, worth], [100, 200], [200, 400]][doubled][in_danger]
        return total
    lost = 0
    for missing in range(1, promised - tricks + 1):
        place = min(missing, 4) - 1
        if doubled == 0:
            lost += [50, 100][in_danger]
        else:
            lost += [[100, 200, 200, 300], [200, 300, 300, 300]][in_danger][place] * doubled
    return -lost


class Needed(unittest.TestCase):
    def test_written_out(self):
        self.assertEqual([needed(13, level) for level in range(1, 8)], [7, 8, 9, 10, 11, 12, 13])
        self.assertEqual([needed(1, 1), needed(2, 1), needed(3, 1), needed(3, 2), needed(4, 2)], [1, 2, 2, 3, 4])

    def test_the_greatest_level_needs_all_tricks(self):
        for size in range(1, 14):
            self.assertEqual(needed(size, size - size // 2), size)


class Score(unittest.TestCase):
    def test_examples_of_the_interface(self):
        self.assertEqual(score(4, 13, (3, 4, 0, 0), 9, NEITHER), 400)
        self.assertEqual(score(4, 13, (4, 2, 1, 1), 7, [False, True]), -800)

    def test_written_out(self):
        for level, strain, doubled, tricks, calm, in_danger in WRITTEN_OUT:
            contract = (level, strain, doubled, 2)
            with self.subTest(contract=contract, tricks=tricks):
                self.assertEqual(score(4, 13, contract, tricks, NEITHER), calm)
                self.assertEqual(score(4, 13, contract, tricks, BOTH), in_danger)

    def test_small_decks_written_out(self):
        for suits, size, level, strain, doubled, tricks, calm, in_danger in SMALL:
            contract = (level, strain, doubled, 1)
            with self.subTest(suits=suits, size=size, contract=contract, tricks=tricks):
                self.assertEqual(score(suits, size, contract, tricks, NEITHER), calm)
                self.assertEqual(score(suits, size, contract, tricks, BOTH), in_danger)

    def test_all_by_plain_words(self):
        for suits, size in product(range(1, 5), (1, 2, 3, 4, 5, 8, 13)):
            levels = range(1, size - size // 2 + 1)
            for level, strain, doubled, declarer in product(levels, range(suits + 1), range(3), range(4)):
                contract = (level, strain, doubled, declarer)
                with self.subTest(suits=suits, size=size, contract=contract):
                    self.all_tricks(suits, size, contract)

    def all_tricks(self, suits, size, contract):
        for tricks, vulnerable in product(range(size + 1), product([False, True], repeat=2)):
            points = score(suits, size, contract, tricks, list(vulnerable))
            self.assertEqual(points, plain_score(suits, size, contract, tricks, vulnerable[contract[3] % 2]))
            self.assertIs(type(points), int)

    def test_the_declarers_side_tells_the_vulnerability(self):
        for declarer in range(4):
            one_side = [declarer % 2 == 0, declarer % 2 == 1]
            other_side = [not one_side[0], not one_side[1]]
            self.assertEqual(score(4, 13, (3, 4, 0, declarer), 9, one_side), 600)
            self.assertEqual(score(4, 13, (3, 4, 0, declarer), 9, other_side), 400)
            self.assertEqual(score(4, 13, (3, 4, 0, declarer), 8, one_side), -100)
            self.assertEqual(score(4, 13, (3, 4, 0, declarer), 8, other_side), -50)

    def test_without_a_contract(self):
        for tricks in range(14):
            self.assertEqual(score(4, 13, None, tricks, BOTH), 0)


class ScoreFor(unittest.TestCase):
    def test_both_sides(self):
        for contract, tricks, vulnerable in product(
                [(3, 4, 0, 0), (4, 2, 1, 1), (1, 0, 2, 2), (7, 3, 0, 3)], range(14), [NEITHER, BOTH, [True, False]]):
            own = contract[3] % 2
            points = score(4, 13, contract, tricks, vulnerable)
            with self.subTest(contract=contract, tricks=tricks, vulnerable=vulnerable):
                self.assertEqual(score_for(4, 13, contract, tricks, vulnerable, own), points)
                self.assertEqual(score_for(4, 13, contract, tricks, vulnerable, 1 - own), -points)

    def test_written_out(self):
        self.assertEqual(score_for(4, 13, (3, 4, 0, 1), 9, [False, True], 1), 600)
        self.assertEqual(score_for(4, 13, (3, 4, 0, 1), 9, [False, True], 0), -600)
        self.assertEqual(score_for(4, 13, (3, 4, 1, 2), 8, [False, True], 0), -100)
        self.assertEqual(score_for(4, 13, (3, 4, 1, 2), 8, [False, True], 1), 100)

    def test_without_a_contract(self):
        for side in (0, 1):
            self.assertEqual(score_for(2, 3, None, 0, NEITHER, side), 0)


class Compared(unittest.TestCase):
    def test_written_out(self):
        self.assertEqual(compared([5]), [0])
        self.assertEqual(compared([5, 5]), [1, 1])
        self.assertEqual(compared([-50, 400]), [0, 2])
        self.assertEqual(compared([400, -50, 400, 90]), [5, 0, 5, 2])
        self.assertEqual(compared([0, 0, 0]), [2, 2, 2])
        self.assertEqual(compared([3, 2, 1]), [4, 2, 0])

    def test_all_short_lists(self):
        for length in range(1, 6):
            for scores in product((-100, 0, 50, 10 ** 30), repeat=length):
                self.compare(list(scores))

    def compare(self, scores):
        with self.subTest(scores=scores):
            given = list(scores)
            result = compared(given)
            expected = []
            for place, points in enumerate(scores):
                others = scores[:place] + scores[place + 1:]
                expected.append(sum(2 if other < points else 1 if other == points else 0 for other in others))
            self.assertEqual(result, expected)
            self.assertIs(type(result), list)
            self.assertEqual(sum(result), len(scores) * (len(scores) - 1))
            self.assertEqual(given, scores)


if __name__ == "__main__":
    unittest.main()
