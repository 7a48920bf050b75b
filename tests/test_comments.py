"""Point 3: where comments may stand, and when one stands behind something."""

import unittest

from helper import lines_in, place_of


class Places(unittest.TestCase):
    def test_where_they_may_stand(self):
        for text in ("#c\na", "a#c", "a #c\n", "a\n#c\n#d", "#c\n#d\na", "[#c\n]", "{#c\n}", "[#c\na]",
                     "{#c\na:b}", "[a,#c\nb]", "[a,#c\n]", "[a#c\n]", "[a#c\n#d\n]", "{a:b,#c\nd:e}",
                     "{a:b,#c\n}", "{a:b#c\n}", "{a:b#c\n#d\n}", "[[]#c\n]", "{a:{}#c\n}", "{a:[#c\n]}"):
            self.assertIsNone(place_of(text), text)

    def test_not_between_a_value_and_its_comma(self):
        # Behind the last one a comment may stand, so the comma is what's wrong.
        for text, place in (("[a#c\n,b]", 5), ("[a #c\n , ]", 7), ("{a:b#c\n,d:e}", 7), ("[a\n#c\n#d\n,]", 9),
                            ("[[]#c\n,b]", 6)):
            self.assertEqual(place_of(text), place, text)

    def test_no_other_value_behind_a_comment_behind_the_last(self):
        for text, place in (("[a#c\nb]", 5), ("{a:b#c\nd:e}", 7), ("a#c\nb", 4), ("[a#c\n[]]", 5)):
            self.assertEqual(place_of(text), place, text)

    def test_not_within_an_entry(self):
        for text, place in (("{a#c\n:b}", 2), ("{a #c\n:b}", 3), ("{a:#c\nb}", 3), ("{a: #c\nb}", 4),
                            ("{a\n#c\n:b}", 3), ("{a:\n#c\n[]}", 4)):
            self.assertEqual(place_of(text), place, text)

    def test_a_sign_in_a_string_begins_none(self):
        self.assertEqual(lines_in(20, '["#a"]'), ['["#a"]'])


class Bytes(unittest.TestCase):
    def test_each_byte_in_a_comment(self):
        for byte in range(256):
            if 32 <= byte <= 126:
                self.assertIsNone(place_of("#a" + chr(byte) + "\nb"), byte)
                self.assertEqual(lines_in(20, "#" + chr(byte) + "a\nb"), ["#" + chr(byte) + "a", "b"])
            elif byte != 10:
                self.assertEqual(place_of("#a" + chr(byte) + "\nb"), 2, byte)
                self.assertEqual(place_of("b#a" + chr(byte)), 3, byte)

    def test_blanks_at_its_end_are_not_its_own(self):
        self.assertEqual(lines_in(20, "#c   \na"), ["#c", "a"])
        self.assertEqual(lines_in(20, "a #c   "), ["a #c"])
        self.assertEqual(lines_in(20, "#   \na"), ["#", "a"])
        self.assertEqual(lines_in(20, "#\na"), ["#", "a"])
        self.assertEqual(lines_in(20, "[a#  c  d  \n]"), ["[", "  a #  c  d", "]"])

    def test_it_goes_up_to_the_line_s_or_text_s_end(self):
        self.assertEqual(lines_in(20, "a#[b] # c"), ["a #[b] # c"])
        self.assertEqual(lines_in(20, "a#"), ["a #"])
        self.assertEqual(place_of("#a"), 2)
        self.assertEqual(place_of("[a#]"), 4)


class Behind(unittest.TestCase):
    def check_lines(self, text, lines):
        self.assertEqual(lines_in(20, text), lines, text)

    def test_behind_the_comma(self):
        for text in ("[a,#c\nb]", "[a, #c\nb]", "[a\n,#c\nb]", "[a\n\n ,   #c\n\nb]"):
            self.check_lines(text, ["[", "  a, #c", "  b", "]"])

    def test_a_line_s_end_between_comma_and_comment(self):
        for text in ("[a,\n#c\nb]", "[a, \n #c\nb]", "[a\n,\n\n#c\nb]"):
            self.check_lines(text, ["[", "  a,", "  #c", "  b", "]"])

    def test_behind_the_last(self):
        for text in ("[a#c\n]", "[a  #c\n]", "[a,#c\n]", "[a\n, #c\n]"):
            self.check_lines(text, ["[", "  a #c", "]"])

    def test_a_line_s_end_behind_the_last(self):
        for text in ("[a\n#c\n]", "[a,\n#c\n]", "[a \n \n #c\n]"):
            self.check_lines(text, ["[", "  a", "  #c", "]"])

    def test_only_the_first_of_several(self):
        self.check_lines("[a,#c\n#d\nb]", ["[", "  a, #c", "  #d", "  b", "]"])
        self.check_lines("[a#c\n#d\n]", ["[", "  a #c", "  #d", "]"])
        self.check_lines("a#c\n#d", ["a #c", "#d"])

    def test_not_behind_a_bracket_that_opens(self):
        self.check_lines("[#c\na]", ["[", "  #c", "  a", "]"])
        self.check_lines("{ #c\n}", ["{", "  #c", "}"])
        self.check_lines("[a,[#c\n]]", ["[", "  a,", "  [", "    #c", "  ]", "]"])

    def test_behind_entries(self):
        self.check_lines("{a:b,#c\nd:e#f\n}", ["{", "  a: b, #c", "  d: e #f", "}"])
        self.check_lines("{a:b,\n#c\nd:e\n#f\n}", ["{", "  a: b,", "  #c", "  d: e", "  #f", "}"])

    def test_behind_rows_and_maps(self):
        self.check_lines("[[a], #c\n{b:c}#d\n]", ["[", "  [a], #c", "  {b: c} #d", "]"])
        self.check_lines("[[], #c\n{}#d\n]", ["[", "  [], #c", "  {} #d", "]"])
        self.check_lines("[[a#b\n]#c\n]", ["[", "  [", "    a #b", "  ] #c", "]"])
        self.check_lines("{k:[#b\n],#c\nl:m}", ["{", "  k: [", "    #b", "  ], #c", "  l: m", "}"])


if __name__ == "__main__":
    unittest.main()
