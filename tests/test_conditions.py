import random
import time
import unittest

from finesse.conditions import Condition, chance_where, count_where, fits_where
from finesse.errors import InvalidDeck, InvalidText, NoFit, TooMany
from finesse.numbering import count_deals, deal_of_number
from finesse.views import count_fits

from tests.naive import edits
from tests.naive_conditions import (
    flat, plain_holds, plain_is_condition, some_tree, standard_text, tokens_of, with_spaces,
)
from tests.naive_views import lowest, plain_fits, some_views

DECKS = [(1, 4), (2, 3), (4, 1), (2, 4), (3, 3), (4, 4), (1, 13), (4, 13)]
NOTHING = (0, 0, 0, 0)


def some_trees(count, seed):
    numbers = random.Random(seed)
    for _ in range(count):
        deck = numbers.choice(DECKS)
        yield numbers, deck, some_tree(deck, numbers, numbers.choice([0, 1, 2, 3, 4]))


def some_hands(deck, numbers):
    size = numbers.randrange(1, deck[0] * deck[1] // 4 + 1)
    return deal_of_number(deck, size, numbers.randrange(count_deals(deck, size)))


class Meaning(unittest.TestCase):
    def test_all_kinds_of_conditions(self):
        true = 0
        for numbers, deck, tree in some_trees(1500, 1):
            text = with_spaces(tokens_of(deck, tree), lambda: 0)
            condition = Condition(deck, text)
            for _ in range(4):
                hands = some_hands(deck, numbers)
                with self.subTest(deck=deck, text=text, hands=hands):
                    self.assertIs(condition.holds(hands), plain_holds(deck, tree, hands))
                    true += condition.holds(hands)
        self.assertGreater(true, 1500)
        self.assertLess(true, 4500)

    def test_examples_of_the_interface(self):
        condition = Condition((2, 3), "len(0,d)>=1 and not(points(1)=0 or has(2,da))")
        self.assertEqual(condition.text(), "len(0, d) >= 1 and not (points(1) = 0 or has(2, da))")
        self.assertIs(Condition((1, 4), "points(3) >= 4").holds((1, 2, 4, 8)), True)
        self.assertIs(Condition((1, 4), "points(3) >= 4").holds((1, 2, 8, 4)), False)

    def test_lengths_and_points_and_cards(self):
        hands = (0b0000_1000_0011, 0b1000_0100_0100, 0b0111_0000_0000, 0b0000_0011_1000)
        for text, answer in (
                ("len(0,c) = 2", True), ("len(0,d) = 1", True), ("len(0,h) = 0", True), ("len(2,h) = 3", True),
                ("len(3,d) = 2", True), ("len(1,d) = 2", False), ("points(0) = 7", True), ("points(1) = 10", True),
                ("points(2) = 6", True), ("points(3) = 7", True), ("has(1, ha)", True), ("has(0, ha)", False),
                ("has(0, cj)", True), ("has(3, ca)", True), ("has(2, hk)", True), ("has(2, h2)", None)):
            with self.subTest(text=text):
                if answer is None:
                    with self.assertRaises(InvalidText):
                        Condition((3, 4), text)
                else:
                    self.assertIs(Condition((3, 4), text).holds(hands), answer)

    def test_the_hands_need_not_be_a_deal(self):
        self.assertIs(Condition((2, 3), "len(0, c) + len(0, d) = 3").holds((7, 0, 8, 0)), True)
        self.assertIs(Condition((2, 3), "points(1) = 0 and not has(1, cq)").holds(NOTHING), True)

    def test_comparisons(self):
        for left in (0, 1, 9, 10, 9999):
            for right in (0, 1, 9, 10, 9999):
                for sign, answer in (("=", left == right), ("<=", left <= right), (">=", left >= right)):
                    self.assertIs(Condition((1, 1), f"{left} {sign} {right}").holds(NOTHING), answer)

    def test_the_players_that_occur(self):
        for text, players in (("0 = 0", []), ("points(2) = 1", [2]), ("has(3, ca) or not len(1, c) = 0", [1, 3]),
                              ("1 + points(0) - 2 <= len(0, c) and (has(0, ca) or 1 = points(2) - points(3))", [0, 2, 3])):
            self.assertEqual(Condition((1, 4), text).players(), players)

    def test_sums_go_from_the_left(self):
        for text, answer in (("5 - 3 - 1 = 1", True), ("5 - 3 + 1 = 3", True), ("1 - 2 <= 0", True),
                             ("0 - 9999 - 9999 <= 0 - 9999", True), ("1 + 2 - 3 = 0 - 0", True), ("2 = 5 - 3 - 1", False)):
            self.assertIs(Condition((1, 1), text).holds(NOTHING), answer)

    def test_and_binds_more_than_or_and_not_more_than_both(self):
        words = {True: "0 = 0", False: "0 = 1"}
        for a in (True, False):
            for b in (True, False):
                for c in (True, False):
                    x, y, z = words[a], words[b], words[c]
                    for text, answer in (
                            (f"{x} or {y} and {z}", a or b and c), (f"{x} and {y} or {z}", a and b or c),
                            (f"({x} or {y}) and {z}", (a or b) and c), (f"not {x} and {y}", (not a) and b),
                            (f"not {x} or {y}", (not a) or b), (f"not ({x} and {y})", not (a and b)),
                            (f"not not {x} and not {z}", a and not c), (f"{x} and not {y} and {z}", a and not b and c)):
                        self.assertIs(Condition((1, 1), text).holds(NOTHING), answer)


class StandardText(unittest.TestCase):
    def test_spaces_and_needless_brackets_anywhere(self):
        for numbers, deck, tree in some_trees(1500, 2):
            def brackets(needed):
                return needed + numbers.choice([0, 0, 0, 1, 2])
            pairs = brackets(0)
            tokens = ["("] * pairs + tokens_of(deck, tree, brackets) + [")"] * pairs
            for pick in (lambda: 0, lambda: 1, lambda: numbers.choice([0, 0, 1, 3])):
                text = with_spaces(tokens, pick)
                with self.subTest(deck=deck, text=text):
                    condition = Condition(deck, text)
                    self.assertEqual(condition.text(), standard_text(deck, tree))
                    again = Condition(deck, condition.text())
                    self.assertEqual(again.text(), condition.text())
                    hands = some_hands(deck, numbers)
                    self.assertIs(again.holds(hands), condition.holds(hands))
                    self.assertIs(condition.holds(hands), plain_holds(deck, flat(tree), hands))

    def test_written_out(self):
        for text, standard in (
                ("0=0", "0 = 0"), ("  0  =  0  ", "0 = 0"), ("((0=0))", "0 = 0"), ("1+2-3<=4", "1 + 2 - 3 <= 4"),
                ("len ( 0 , c )>=len(1,d)", "len(0, c) >= len(1, d)"), ("points  (3)=points( 2)", "points(3) = points(2)"),
                ("has (1 ,da)", "has(1, da)"), ("not(has(1,da))", "not has(1, da)"), ("not (0=0)", "not 0 = 0"),
                ("not(not(0=0))", "not not 0 = 0"), ("(not 0=0)and 1=1", "not 0 = 0 and 1 = 1"),
                ("0=0 or(1=1 or 2=2)", "0 = 0 or 1 = 1 or 2 = 2"), ("(0=0 or 1=1)or 2=2", "0 = 0 or 1 = 1 or 2 = 2"),
                ("0=0 and(1=1 and 2=2)", "0 = 0 and 1 = 1 and 2 = 2"),
                ("0=0 and(1=1 or 2=2)", "0 = 0 and (1 = 1 or 2 = 2)"),
                ("0=0 or(1=1 and 2=2)", "0 = 0 or 1 = 1 and 2 = 2"),
                ("(0=0 and 1=1)or 2=2", "0 = 0 and 1 = 1 or 2 = 2"),
                ("not(0=0 and(1=1))", "not (0 = 0 and 1 = 1)"), ("not((0=0)or 1=1)", "not (0 = 0 or 1 = 1)"),
                ("not((not(0=0 or 1=1)))", "not not (0 = 0 or 1 = 1)"),
                ("0=0 and((1=1 or 2=2)or 3=3)and((4=4))", "0 = 0 and (1 = 1 or 2 = 2 or 3 = 3) and 4 = 4"),
                ("(0=0 or(1=1 and(2=2 or(3=3 and 4=4))))",
                 "0 = 0 or 1 = 1 and (2 = 2 or 3 = 3 and 4 = 4)")):
            with self.subTest(text=text):
                self.assertEqual(Condition((2, 3), text).text(), standard)
                self.assertEqual(Condition((2, 3), standard).text(), standard)

    def test_the_deck_tells_which_cards_there_are(self):
        self.assertEqual(Condition((1, 1), "has(0,ca)").text(), "has(0, ca)")
        self.assertEqual(Condition((4, 13), "has(0,s2)or has(3,ht)").text(), "has(0, s2) or has(3, ht)")


class NotConditions(unittest.TestCase):
    def check_refused(self, deck, text):
        with self.subTest(deck=deck, text=text):
            with self.assertRaises(InvalidText):
                Condition(deck, text)

    def test_written_out(self):
        for text in ("", " ", "0", "0 =", "= 0", "0 = 0 =", "0 = 0 = 0", "0 == 0", "0 < 0", "0 > 0", "0 < = 0", "0 => 0",
                     "0 = 0 or", "or 0 = 0", "0 = 0 and", "and 0 = 0", "0 = 0 or or 0 = 0", "0 = 0 0 = 0", "0 = 0 not 0 = 0",
                     "not", "0 = 0 and or 0 = 0", "()", "(0 = 0", "0 = 0)", "(0) = 0", "0 + (1 + 1) = 2", "(0 = 0) = 0",
                     "- 1 = 0", "+ 1 = 1", "1 + = 1", "1 - - 1 = 2", "0 = -0", "1 * 1 = 1",
                     "len(0, c)", "points(0)", "has(0, ca) = 1", "1 = has(0, ca)", "not 1", "has", "has()", "has(0)",
                     "has(ca, 0)", "has(0, c)", "has(0, 5)", "has(0 ca)", "has 0, ca", "has(0, ca", "has(0, ca, da)",
                     "len(0) = 1", "len(c, 0) = 1", "len(0, ca) = 1", "len(0, 0) = 1", "len 0, c = 1", "len(0, c = 1",
                     "points(0, c) = 1", "points() = 0", "points(c) = 1", "points 0 = 1", "points((0)) = 1",
                     "len(0 + 1, c) = 1", "c = 1", "ca = 1", "x = 1", "true", "0 = 0;", "0 = 0.", "0 = 0\n", "0\t= 0",
                     "0 = 0 # all", "NOT 0 = 0", "0 = 0 OR 1 = 1", "Len(0, c) = 1", "len(0, C) = 1", "has(0, cA)",
                     "has(0, cK)", "not_ 0 = 0", "0 = 0 && 1 = 1", "0 = 0 | 1 = 1", "\u0660 = 0", "0 = \u00b2", "!0 = 0"):
            self.check_refused((2, 3), text)

    def test_tokens_that_lack_their_space(self):
        for text in ("not0 = 0", "0 = 0or 1 = 1", "0 = 0 or1 = 1", "0 = 0and 1 = 1", "0 = 0 and1 = 1", "notnot 0 = 0",
                     "nothas(0, ca)", "0 = 0 andhas(0, ca)", "0 = 0 orlen(0, c) = 1", "0 = 1 1", "notlen(0, c) = 0"):
            self.check_refused((2, 3), text)
        for text in ("not(0=0)or(1=1)and(2=2)", "0=0 or not(1=1)", "has(0,ca)or has(0,da)and len(0,c)=1"):
            self.assertIsInstance(Condition((2, 3), text), Condition)

    def test_numbers(self):
        for number in ("0", "7", "10", "100", "9999", "1000"):
            self.assertEqual(Condition((2, 3), f"{number}={number}").text(), f"{number} = {number}")
        for number in ("00", "01", "007", "0123", "01234", "10000", "12345", "99999", "123456789", "1_0", "1 0", "0x1"):
            self.check_refused((2, 3), f"{number} = 1")
            self.check_refused((2, 3), f"1 = 1 + {number}")

    def test_players(self):
        for player in range(4):
            for text in (f"len({player}, c) = 0", f"points({player}) = 0", f"has({player}, ca)"):
                self.assertEqual(Condition((2, 3), text).text(), text)
        for player in ("4", "9", "10", "00", "01", "0003", "9999", "10000", "-1", "c"):
            for text in (f"len({player}, c) = 0", f"points({player}) = 0", f"has({player}, ca)"):
                self.check_refused((2, 3), text)

    def test_suits_and_cards_that_the_deck_has_not(self):
        for suits in range(1, 5):
            for ranks in (1, 4, 13):
                for place, letter in enumerate("cdhs"):
                    for text, known in ((f"len(2, {letter}) = 1", place < suits), (f"has(2, {letter}a)", place < suits),
                                        (f"has(2, {letter}j)", place < suits and ranks >= 4),
                                        (f"has(2, {letter}2)", place < suits and ranks == 13)):
                        if known:
                            self.assertEqual(Condition((suits, ranks), text).text(), text)
                        else:
                            self.check_refused((suits, ranks), text)

    def test_one_changed_sign(self):
        accepted = 0
        for text in ("len(0, d) >= 1 and not (points(1) = 0 or has(2, da))", "1+2 <= len(3,c) or(has(0,cq)and 10=9)"):
            for changed in edits(text, " 0125acdkqx(),+-<>=.notadr"):
                with self.subTest(text=changed):
                    if plain_is_condition((2, 3), changed):
                        accepted += 1
                        self.assertIsInstance(Condition((2, 3), changed), Condition)
                    else:
                        self.check_refused((2, 3), changed)
        self.assertGreater(accepted, 150)

    def test_other_tokens(self):
        tokens = ["len", "points", "has", "and", "or", "not", "(", ")", ",", "+", "-", "<=", ">=", "=", "0", "3", "4", "12",
                  "c", "d", "h", "ca", "dq", "dj"]
        numbers = random.Random(7)
        accepted = 0
        for start in ("has ( 0 , ca ) and not ( 1 = 2 or len ( 3 , c ) - 1 >= points ( 2 ) )", "not 1 + 1 = 2 or has ( 1 , dq )"):
            for _ in range(3000):
                words = start.split(" ")
                for _ in range(numbers.choice([1, 1, 2])):
                    place = numbers.randrange(len(words))
                    words[place:place + numbers.choice([0, 1, 1, 2])] = numbers.sample(tokens, numbers.choice([0, 1, 1, 2]))
                text = " ".join(words)
                if plain_is_condition((2, 3), text):
                    accepted += 1
                    self.assertIsInstance(Condition((2, 3), text), Condition)
                else:
                    self.check_refused((2, 3), text)
        self.assertGreater(accepted, 150)

    def test_decks_that_are_none_come_first(self):
        for deck in ((0, 3), (5, 3), (2, 0), (2, 14), (-1, 3), (2, -1)):
            for text in ("0 = 0", "", "has(0, zz)", "(" * 50):
                with self.assertRaises(InvalidDeck):
                    Condition(deck, text)


class Nesting(unittest.TestCase):
    def nested(self, depth):
        """Texts in which `not` and brackets are nested so deep."""
        pairs, rest = divmod(depth, 2)
        return ["not " * depth + "0 = 0", "(" * depth + "points(0) >= 0" + ")" * depth,
                "not(" * pairs + "not " * rest + "len(0,c) = 0" + ")" * pairs,
                "(not " * pairs + "(" * rest + "has(0,ca)" + ")" * (rest + pairs),
                "1 = 0 or (0 = 0 and " * depth + "1 = 1" + ")" * depth, "1 = 1 and (1 = 2 or " * depth + "1 = 1" + ")" * depth,
                "(" * depth + "0 = 0" + " or 1 = 2)" * depth]

    def test_40_deep(self):
        for depth in (1, 2, 39, 40):
            for text in self.nested(depth):
                with self.subTest(text=text):
                    condition = Condition((1, 4), text)
                    self.assertIn(condition.holds(NOTHING), (True, False))
                    self.assertEqual(Condition((1, 4), condition.text()).text(), condition.text())
        self.assertIs(Condition((1, 4), "not " * 39 + "0 = 0").holds(NOTHING), False)
        self.assertIs(Condition((1, 4), "not " * 40 + "0 = 0").holds(NOTHING), True)

    def test_41_deep(self):
        for depth in (41, 42, 45, 60):
            for text in self.nested(depth) + [f"0 = 0 and not ({text})" for text in self.nested(depth - 2)]:
                with self.subTest(text=text):
                    with self.assertRaises(InvalidText):
                        Condition((1, 4), text)

    def test_far_too_deep(self):
        for text in ("not " * 100000 + "0 = 0", "(" * 100000 + "0 = 0" + ")" * 100000, "(" * 100000, "not(" * 100000):
            with self.assertRaises(InvalidText):
                Condition((1, 4), text)

    def test_side_by_side_there_may_be_many(self):
        for word, answer in (("and", True), ("or", True)):
            text = f" {word} ".join(["not (not 0 = 0)"] * 2000)
            condition = Condition((1, 4), text)
            self.assertEqual(condition.text(), f" {word} ".join(["not not 0 = 0"] * 2000))
            self.assertIs(condition.holds(NOTHING), answer)
        text = "0 = 0" + " + 1 - 1" * 3000
        self.assertEqual(Condition((1, 4), text).text(), text)
        self.assertIs(Condition((1, 4), text).holds(NOTHING), True)


class Where(unittest.TestCase):
    def test_all_by_going_through_the_fits(self):
        numbers = random.Random(3)
        some = 0
        for view in some_views(250, 5):
            deck = view[0]
            expected = plain_fits(view)
            for _ in range(8):
                tree = some_tree(deck, numbers, 1)
                condition = Condition(deck, standard_text(deck, tree))
                found = [fit for fit in expected if plain_holds(deck, tree, fit)]
                some += 0 < len(found) < len(expected)
                with self.subTest(view=view, text=condition.text()):
                    self.assertEqual(fits_where(view, condition), found)
                    self.assertEqual(count_where(view, condition), len(found))
                    if expected:
                        self.assertEqual(chance_where(view, condition), lowest(len(found), len(expected)))
                    else:
                        with self.assertRaises(NoFit):
                            chance_where(view, condition)
        self.assertGreater(some, 100)

    def test_written_out(self):
        view = ((1, 4), (1, 0, 0, 0), (0, 1, 1, 1), 14, NOTHING)
        condition = Condition((1, 4), "has(1, ca) or points(2) = 3")
        self.assertEqual(fits_where(view, condition), [(1, 2, 4, 8), (1, 8, 2, 4), (1, 8, 4, 2)])
        self.assertEqual(count_where(view, condition), 3)
        self.assertEqual(chance_where(view, condition), (1, 2))
        # Cards that are known already count, too.
        self.assertEqual(chance_where(view, Condition((1, 4), "has(0, cj)")), (1, 1))
        self.assertEqual(chance_where(view, Condition((1, 4), "has(1, cj)")), (0, 1))

    def test_without_any_fit(self):
        view = ((2, 3), NOTHING, (1, 0, 0, 0), 7, (1, 0, 0, 0))
        for text in ("0 = 0", "0 = 1"):
            condition = Condition((2, 3), text)
            self.assertEqual((count_where(view, condition), fits_where(view, condition)), (0, []))
            with self.assertRaises(NoFit):
                chance_where(view, condition)

    def test_up_to_20000_fits(self):
        # Each player has cards of one suit only.
        pool = (2 ** 10 - 1) * (1 + 2 ** 13 + 2 ** 26) + ((2 ** 6 - 1) << 39)
        view = ((4, 13), NOTHING, (1, 1, 1, 3), pool, (14, 13, 11, 7))
        self.assertEqual(count_fits(view), 20000)
        condition = Condition((4, 13), "has(0, c2) and has(3, s3)")
        self.assertEqual(count_where(view, condition), 1000)
        self.assertEqual(len(fits_where(view, condition)), 1000)
        self.assertEqual(chance_where(view, condition), (1, 20))

    def test_more_than_20000_fits(self):
        pool = (2 ** 13 - 1) + ((2 ** 11 - 1) << 13) + ((2 ** 8 - 1) << 26) + (3 << 39)
        for view in (((4, 13), NOTHING, (1, 1, 4, 1), pool, (14, 13, 11, 7)),
                     ((4, 13), NOTHING, (13, 13, 13, 13), 2 ** 52 - 1, NOTHING)):
            for text in ("0 = 0", "0 = 1"):
                for function in (count_where, fits_where, chance_where):
                    with self.assertRaises(TooMany):
                        function(view, Condition((4, 13), text))

    def test_a_few_thousand_fits_in_moments(self):
        began = time.perf_counter()
        view = ((4, 13), NOTHING, (0, 7, 7, 0), (2 ** 14 - 1) << 20, NOTHING)
        condition = Condition((4, 13), "len(1, h) + len(1, d) >= 4 and (points(1) >= 3 or has(2, hk)) and not len(2, h) = 0")
        self.assertEqual(count_fits(view), 3432)
        self.assertEqual(count_where(view, condition), len(fits_where(view, condition)))
        # This takes less than a second.
        self.assertLess(time.perf_counter() - began, 60)

    def test_kinds_and_new_lists(self):
        view = ((1, 4), (1, 0, 0, 0), (0, 1, 1, 1), 14, NOTHING)
        condition = Condition((1, 4), "0 = 0")
        found = fits_where(view, condition)
        self.assertEqual([type(found), type(found[0]), type(chance_where(view, condition))], [list, tuple, tuple])
        found.clear()
        self.assertEqual(len(fits_where(view, condition)), 6)
        self.assertIs(type(count_where(view, condition)), int)


if __name__ == "__main__":
    unittest.main()
