"""Point 7: measure, how many lines format gives and how long the longest is."""

import unittest

from helper import WRONG, bytes_of, lines_in, measured
from setlines.texts import measure

WIDTHS = (20, 21, 33, 60, 79, 80, 199, 200)
# Texts with what's measured of them at width 20.
FLAT = (
    ("a", 1, 1), ("  abc\n", 1, 3), ('" a "', 1, 5), ("[]", 1, 2), ("{ }", 1, 2), ("[a,b]", 1, 6), ("[ a ]", 1, 3),
    ("{a:b,c:d}", 1, 12), ("{a:[b,{c:d}]}", 1, 16), ("[[],{}]", 1, 8), ("[aaaa,bbbb,cccccc]", 1, 20),
    ("a" * 300, 1, 300), ('"' + "b" * 300 + '"', 1, 302))
BROKEN = (
    ("[aaaa,bbbb,ccccccc]", 5, 9), ("{aaa:bbb,ccc:dddd}", 4, 11), ("[" + "a" * 30 + "]", 3, 32),
    ("[" + "a" * 30 + ",b]", 4, 33), ("[b," + "a" * 30 + "]", 4, 32), ("{" + "k" * 30 + ":[]}", 3, 36),
    ("{" + "k" * 30 + ":[a]}", 5, 35), ("{" + "k" * 30 + ":{a:b},c:[]}", 6, 35), ("[[aaaa,bbbb,ccc],d]", 4, 20),
    ("[d,[aaaa,bbbb,cccc]]", 4, 20), ("[[aaaa,bbbb,cccc],d]", 8, 9), ("[[[aaaaaa,bbbbbb,cccccc]]]", 9, 13))
NOTED = (
    ("#\na", 2, 1), ("#c \na", 2, 2), ("# some more\na", 2, 11), ("a#c", 1, 4), ("a #c   ", 1, 4), ("a\n#c", 2, 2),
    ("a#" + "c" * 50 + "\n#d", 2, 53), ("a\n#" + "c" * 50, 2, 51), ("#" + "c" * 50 + "\n\n\na\n#d\n#e", 4, 51),
    ("[#c\n]", 3, 4), ("{#c\n#d\n}", 4, 4), ("[a#c\n]", 3, 6), ("[a,#c\nb]", 4, 7), ("[a,\n#c\nb]", 5, 4),
    ("[a\n#c\n]", 4, 4), ("{a:b,#c\nd:e#f\n}", 4, 10), ("[a, #" + "c" * 50 + "\nb]", 4, 56),
    ("[\n#" + "c" * 50 + "\nb]", 4, 53), ("[[a],#c\n[b]]", 4, 9), ("[[a#b\n]#c\n]", 5, 8),
    ("{k:[#b\n],#" + "c" * 20 + "\nl:m}", 6, 26), ("[aaaa,bbbb,cccccc] # and so on", 1, 32), ("[] #c", 1, 5))


class Measured(unittest.TestCase):
    def check_as_told(self, text):
        for width in WIDTHS:
            lines = lines_in(width, text)
            self.assertEqual(measured(width, text), [len(lines), max([len(line) for line in lines])], text)

    def test_told_flat(self):
        for text, count, longest in FLAT:
            self.assertEqual(measured(20, text), [count, longest], text)
            self.check_as_told(text)

    def test_told_broken(self):
        for text, count, longest in BROKEN:
            self.assertEqual(measured(20, text), [count, longest], text)
            self.check_as_told(text)

    def test_comments(self):
        for text, count, longest in NOTED:
            self.assertEqual(measured(20, text), [count, longest], text)
            self.check_as_told(text)

    def test_the_same_however_it_stood(self):
        for text in ("[a, b]", "{a: [b, {c: d}]}", "[" + "ab, " * 40 + "ab]"):
            for width in WIDTHS:
                told = measured(width, text)
                self.assertEqual(measured(width, text.replace(" ", "")), told)
                self.assertEqual(measured(width, text.replace(" ", "\n\n\n ")), told)
                self.assertEqual(measured(width, "\n".join(lines_in(width, text)) + "\n\n"), told)

    def test_the_longest_wherever_it_is(self):
        words = ["a" * 9, "b" * 8, "c" * 7, "d" * 6]
        for turn in range(4):
            told = ",".join(words[turn:] + words[:turn])
            # A comma is behind each but the last.
            self.assertEqual(measured(20, "[" + told + "]"), [6, 11 if turn == 1 else 12])

    def test_as_many_bytes_as_a_line_s_end_is(self):
        # Set in lines, these have 10 bytes, which isn't a line's end itself.
        self.assertEqual(measured(20, "a" * 9), [1, 9])
        self.assertEqual(measured(20, "[#cd\n]"), [3, 5])

    def test_blanks_in_front(self):
        for depth in range(1, 41):
            # The inmost is told in a line of its own, in the midst of all brackets.
            self.assertEqual(measured(20, "[" * depth + "#\n" + "]" * depth), [2 * depth + 1, 2 * depth + 1])
            self.assertEqual(measured(20, "[" * depth + "abc#d\n" + "]" * depth), [2 * depth + 1, 2 * depth + 6])


class Widths(unittest.TestCase):
    def test_each_width_against_the_length(self):
        for length in range(20, 201):
            text = "[" + "a" * (length - 5) + ", b]"
            self.assertEqual(measured(length, text), [1, length])
            if length > 20:
                self.assertEqual(measured(length - 1, text), [4, length - 2])

    def test_20_and_200(self):
        text = "[" + "abcd," * 40 + "]"
        self.assertEqual(measured(20, text), [42, 7])
        self.assertEqual(measured(200, text), [42, 7])
        self.assertEqual(measured(200, "[" + "abcd," * 33 + "]"), [1, 198])
        self.assertEqual(measured(20, "[" + "abcd," * 33 + "]"), [35, 7])

    def test_others_with_right_and_wrong_texts(self):
        for width in (19, 201, 0, -1, -2147483648, 2147483647):
            for text in ("a", "[a, #c\nb]", "[" * 40 + "]" * 40):
                self.assertEqual(measured(width, text), [-2])
            for text, place in WRONG:
                self.assertEqual(measured(width, text), [-2])

    def test_texts_that_can_not_be_read(self):
        for width in WIDTHS:
            for text, place in WRONG:
                self.assertEqual(measured(width, text), [-100 - place], text)
        self.assertEqual(measure(20, []), [-100])


class Limits(unittest.TestCase):
    def test_20000_bytes(self):
        for text, count, longest in (
                ("a" * 20000, 1, 20000), ('"' + " " * 19998 + '"', 1, 20000), ("#" * 19998 + "\na", 2, 19998),
                ("a#" + "b" * 19998, 1, 20001), (" " * 19999 + "a", 1, 1), ("a" + "\n" * 19999, 1, 1),
                ("[" + "a," * 9999 + "]", 10001, 4), ("[" + "#\n" * 9999 + "]", 10001, 3),
                ("[" + "[]," * 6666 + "]", 6668, 5)):
            self.assertEqual(len(text), 20000)
            for width in (20, 200):
                self.assertEqual(measured(width, text), [count, longest])

    def test_40_deep(self):
        self.assertEqual(measured(80, "[" * 40 + "]" * 40), [1, 80])
        self.assertEqual(measured(79, "[" * 40 + "]" * 40), [79, 80])
        self.assertEqual(measured(20, "[" * 40 + "a" + "]" * 40), [81, 81])
        self.assertEqual(measured(81, "[" * 40 + "a" + "]" * 40), [1, 81])
        self.assertEqual(measured(20, "{a:" * 39 + "{}" + "}" * 39), [79, 83])

    def test_20000_bytes_40_deep(self):
        text = "[" * 40 + "a," * 9960 + "]" * 40
        self.assertEqual(len(text), 20000)
        self.assertEqual(measured(20, text), [80 + 9960, 82])
        self.assertEqual(measured(200, text), [80 + 9960, 82])

    def test_41_deep(self):
        for text, place in (("[" * 41 + "]" * 41, 40), ("{a:" * 41 + "b" + "}" * 41, 120), ("[" * 20000, 40)):
            self.assertEqual(measured(20, text), [-100 - place])
            self.assertEqual(measured(200, text), [-100 - place])
            self.assertEqual(measured(19, text), [-2])

    def test_a_fault_at_the_end_of_20000_bytes(self):
        self.assertEqual(measure(20, bytes_of("[" + "a," * 9999 + ",")), [-20099])
        self.assertEqual(measure(20, bytes_of("[" + "a," * 9999 + "a")), [-20100])


if __name__ == "__main__":
    unittest.main()
