"""Points 3 and 9: notes, all comments in their order."""

import unittest

from helper import WRONG, bytes_of, notes_in
from setlines.texts import notes

# Texts with the comments that stand in them.
PLACED = (
    # A text's own: ahead of its value, and behind it.
    ("#c\na", ["#c"]), ("#c\n#d\n\n #e\na", ["#c", "#d", "#e"]), ("a#c", ["#c"]), ("a #c\n", ["#c"]),
    ("a\n#c", ["#c"]), ("a #c\n\n#d\n#e", ["#c", "#d", "#e"]), ("#c\n[]#d\n#e", ["#c", "#d", "#e"]),
    # In empty rows and maps.
    ("[#c\n]", ["#c"]), ("[ #c\n#d\n]", ["#c", "#d"]), ("{#c\n}", ["#c"]), ("{\n#c\n#d\n}", ["#c", "#d"]),
    ("[[#c\n],{#d\n}]", ["#c", "#d"]), ("{a:[#c\n],b:{#d\n}}", ["#c", "#d"]),
    # Ahead of values and entries, behind them, behind their commas, and behind the last.
    ("[#c\na]", ["#c"]), ("{#c\na:b}", ["#c"]), ("[a,#c\nb]", ["#c"]), ("[a,\n#c\nb]", ["#c"]), ("[a,b#c\n]", ["#c"]),
    ("[a,b,#c\n]", ["#c"]), ("[a,b\n#c\n]", ["#c"]), ("{a:b,#c\nd:e}", ["#c"]), ("{a:b#c\n}", ["#c"]),
    ("{a:b,\n#c\n#d\n}", ["#c", "#d"]), ("[a, #c\n#d\nb, #e\n\n#f\n]", ["#c", "#d", "#e", "#f"]),
    # Within one another: in the order of the text, so the inner ones are ahead of one behind the whole.
    ("[[a#c\n]#d\n]#e", ["#c", "#d", "#e"]), ("[#c\n[#d\n[#e\n]#f\n]#g\n]#h", ["#c", "#d", "#e", "#f", "#g", "#h"]),
    ("{#z\nb:{#y\nd:1,#x\nc:2#w\n},#v\na:3#u\n}#t", ["#z", "#y", "#x", "#w", "#v", "#u", "#t"]))


class Notes(unittest.TestCase):
    def test_the_answer_byte_by_byte(self):
        self.assertEqual(notes(bytes_of("a")), [0])
        self.assertEqual(notes(bytes_of("#c\na")), [3, 35, 99, 10])
        self.assertEqual(notes(bytes_of("[a, # b \n] #")), [6, 35, 32, 98, 10, 35, 10])

    def test_no_comment_at_all(self):
        for text in ("a", '"a"', "[]", "{}", " \n[a, {b: c}, ]\n", "[" * 40 + "]" * 40):
            self.assertEqual(notes(bytes_of(text)), [0])

    def test_wherever_they_may_stand(self):
        for text, told in PLACED:
            self.assertEqual(notes_in(text), told, text)

    def test_the_sign_alone(self):
        self.assertEqual(notes_in("#\na#"), ["#", "#"])
        self.assertEqual(notes_in("[#\na,#\n#\n]"), ["#", "#", "#"])
        self.assertEqual(notes_in("##\na"), ["##"])

    def test_blanks(self):
        self.assertEqual(notes_in("#c   \na"), ["#c"])
        self.assertEqual(notes_in("#    \na"), ["#"])
        self.assertEqual(notes_in("a #c   "), ["#c"])
        self.assertEqual(notes_in("a#  "), ["#"])
        # Those ahead of it aren't its own either, those within it are.
        self.assertEqual(notes_in("   #   c   d   \na"), ["#   c   d"])

    def test_what_stands_in_them(self):
        for told in ("#[", "#]", "#{a: b}", "#,", '#"', '#"a', "#\\", '#\\"', "#a#b # c", "# [a, # b", "#:", "#~!"):
            self.assertEqual(notes_in(told + "\na"), [told])
            self.assertEqual(notes_in("a " + told), [told])
            self.assertEqual(notes_in("[a, " + told + "\nb " + told + " \n]"), [told, told])
            self.assertEqual(notes_in("{" + told + "\na: b}"), [told])

    def test_each_byte_in_one(self):
        for byte in range(256):
            if 32 <= byte <= 126:
                self.assertEqual(notes_in("#" + chr(byte) + "c\na"), ["#" + chr(byte) + "c"])
            elif byte != 10:
                self.assertEqual(notes(bytes_of("#c" + chr(byte) + "\na")), [-102])
                self.assertEqual(notes(bytes_of("[a, #c\n#" + chr(byte))), [-108])

    def test_a_sign_in_a_string_begins_none(self):
        for text in ('"#c"', '["#", "a#b"]', '{"#c": "#d"}', '"\\"#c"', '"\\\\#"'):
            self.assertEqual(notes_in(text), [])
            self.assertEqual(notes_in(text + "#" + text), ["#" + text])

    def test_the_text_s_end_ends_it(self):
        for told in ("#", "#c", "# c d", "#[a]"):
            self.assertEqual(notes_in("a" + told), [told])
            self.assertEqual(notes_in("[b #c\n]\n" + told), ["#c", told])
            self.assertEqual(notes_in("a" + told + "\n"), [told])

    def test_one_that_is_there_twice(self):
        self.assertEqual(notes_in("#c\n#c\na #c\n#c"), ["#c"] * 4)


class Wrong(unittest.TestCase):
    def test_each_kind_of_fault(self):
        for text, place in WRONG:
            self.assertEqual(notes(bytes_of(text)), [-100 - place], text)

    def test_in_a_comment(self):
        for text, place in (("#\t\na", 1), ("#c\x00\na", 2), ("a #c\x1f", 4), ("a #\r\n", 3), ("[#c \x7f\n]", 4),
                            ("[a, #c\x80\nb]", 6), ("{a:b #\xff\n}", 6), ("#c\n#d\x01\na", 5)):
            self.assertEqual(notes(bytes_of(text)), [-100 - place], text)

    def test_where_none_may_stand(self):
        for text, place in (("{a#c\n:b}", 2), ("{a:#c\nb}", 3), ("{a:\n#c\nb}", 4), ("{a #c\n:b}", 3),
                            ("[a#c\n,b]", 5), ("[a #c\n#d\n , ]", 10), ("{a:b#c\n,d:e}", 7)):
            self.assertEqual(notes(bytes_of(text)), [-100 - place], text)

    def test_comments_without_a_value(self):
        for text in ("", "#c", "#c\n", "#c\n#d\n\n", "[#c\n", "[a #]", "{a: b, #}"):
            self.assertEqual(notes(bytes_of(text)), [-100 - len(text)], text)

    def test_comments_ahead_of_the_fault_are_not_told(self):
        self.assertEqual(notes(bytes_of("#c\n[a #d\n] b")), [-111])


class Limits(unittest.TestCase):
    def test_20000_bytes(self):
        for text, told in (
                ("#" * 19998 + "\na", ["#" * 19998]), ("a#" + "b" * 19998, ["#" + "b" * 19998]),
                ("a#" + " " * 19998, ["#"]), ("[" + "#\n" * 9999 + "]", ["#"] * 9999),
                ("a" + "#\n" * 9999 + "#", ["#"] * 10000), ("a" * 20000, []), ('"' + "#" * 19998 + '"', []),
                ("[" + "a,#\n" * 4999 + "a]\n", ["#"] * 4999)):
            self.assertEqual(len(text), 20000)
            self.assertEqual(notes_in(text), told)

    def test_40_deep(self):
        self.assertEqual(notes_in("[#a\n" * 40 + "b#c\n" + "]#d\n" * 40), ["#a"] * 40 + ["#c"] + ["#d"] * 40)
        self.assertEqual(notes_in("{#a\nk:" * 39 + "{}" + ",#d\n}" * 39), ["#a"] * 39 + ["#d"] * 39)

    def test_41_deep(self):
        for text, place in (("[" * 41 + "]" * 41, 40), ("{a:" * 41 + "b" + "}" * 41, 120), ("[" * 20000, 40),
                            ("[#a\n" * 40 + "[", 160)):
            self.assertEqual(notes(bytes_of(text)), [-100 - place])


if __name__ == "__main__":
    unittest.main()
