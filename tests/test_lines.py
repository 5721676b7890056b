import unittest

from finesse.errors import InvalidText
from finesse.lines import lines_of, read_number, read_player, told_lines


class Lines(unittest.TestCase):
    def test_a_last_line_feed_begins_no_line(self):
        for text, lines in (("", []), ("\n", [""]), ("a", ["a"]), ("a\n", ["a"]), ("a\n\n", ["a", ""]),
                            ("\na", ["", "a"]), ("a\nb\n", ["a", "b"]), ("a\r\nb", ["a\r", "b"])):
            with self.subTest(text=text):
                self.assertEqual(lines_of(text), lines)

    def test_empty_lines_and_remarks_are_counted_but_not_told(self):
        text = "# one\n\nthree\n #four\n#\n##\nseven # no remark\n"
        self.assertEqual(told_lines(text), [(3, "three"), (4, " #four"), (7, "seven # no remark")])
        self.assertEqual(told_lines(""), [])


class Numbers(unittest.TestCase):
    def test_numbers(self):
        for number in list(range(1200)) + [9998, 9999]:
            self.assertEqual(read_number(str(number), 4), number)

    def test_other_texts(self):
        for text in ("", "00", "01", "0000", "10000", "12345", "-1", "+1", "1 ", " 1", "1.", "a", "1a", "\u0663", "\u00b2"):
            with self.subTest(text=text):
                with self.assertRaises(InvalidText):
                    read_number(text, 4)

    def test_players(self):
        self.assertEqual([read_player(str(player)) for player in range(4)], [0, 1, 2, 3])
        for text in ("", "4", "9", "00", "03", "10", "-1", "x", " 0"):
            with self.subTest(text=text):
                with self.assertRaises(InvalidText):
                    read_player(text)


if __name__ == "__main__":
    unittest.main()
