"""Point 1: blanks, line's ends, words and strings."""

import unittest

from helper import lines_in, place_of

WORD_BYTES = "abcdefghijklmnopqrstuvwxyzABCDEFGHIJKLMNOPQRSTUVWXYZ0123456789-+._/"


class Words(unittest.TestCase):
    def test_each_byte_that_may_stand_in_a_word(self):
        for sign in WORD_BYTES:
            self.assertIsNone(place_of(sign), sign)
            self.assertEqual(lines_in(20, "a" + sign + "a"), ["a" + sign + "a"])
        self.assertEqual(lines_in(20, WORD_BYTES), [WORD_BYTES])

    def test_each_byte_that_can_not_begin_a_text(self):
        for byte in range(256):
            sign = chr(byte)
            if sign not in WORD_BYTES + " \n#\"[{":
                self.assertEqual(place_of(sign), 0, byte)
                self.assertEqual(place_of(" " + sign + "a"), 1, byte)

    def test_each_byte_that_ends_a_word(self):
        for byte in range(256):
            sign = chr(byte)
            if sign not in WORD_BYTES + " \n#":
                self.assertEqual(place_of("ab" + sign), 2, byte)
            if sign not in WORD_BYTES + " \n#,]":
                self.assertEqual(place_of("[ab" + sign + "]"), 3, byte)

    def test_a_word_is_left_as_it_stands(self):
        for word in ("007", "-", "+1.50", "a/b", "..", "True", "_"):
            self.assertEqual(lines_in(20, word), [word])


class Strings(unittest.TestCase):
    def test_each_byte_in_a_string(self):
        for byte in range(256):
            text = '"a' + chr(byte) + 'b"'
            if 32 <= byte <= 126 and chr(byte) not in '"\\':
                self.assertIsNone(place_of(text), byte)
                self.assertEqual(lines_in(20, text), [text])
            elif chr(byte) == '"':
                self.assertEqual(place_of(text), 3)
            elif chr(byte) == "\\":
                self.assertEqual(place_of(text), 3)
            else:
                self.assertEqual(place_of(text), 2, byte)

    def test_each_byte_behind_a_backslash(self):
        for byte in range(256):
            text = '"a\\' + chr(byte) + '"'
            if chr(byte) in '\\n':
                self.assertIsNone(place_of(text), byte)
                self.assertEqual(lines_in(20, text), [text])
            elif chr(byte) == '"':
                self.assertIsNone(place_of(text))
            else:
                self.assertEqual(place_of(text), 3, byte)

    def test_a_string_is_left_as_it_stands(self):
        for string in ('""', '" "', '"a  b "', '"\\\\"', '"\\""', '"\\n"', '"# [,]{:}"'):
            self.assertEqual(lines_in(20, string), [string])
            self.assertEqual(lines_in(20, "[" + string + "]"), ["[" + string + "]"])


class Space(unittest.TestCase):
    def test_blanks_and_lines_ends_between_anything(self):
        parts = ["[", "a", ",", "{", "k", ":", '"s"', ",", '"l"', ":", "[", "]", "}", ",", "]"]
        for space in ("", " ", "\n", "   ", "\n\n", " \n ", "\n \n"):
            text = space + space.join(parts) + space
            self.assertIsNone(place_of(text), space)
            self.assertEqual(lines_in(30, text), ['[a, {k: "s", "l": []}]'])

    def test_no_other_space(self):
        for byte in (0, 9, 11, 12, 13, 31, 127, 128, 133, 160, 255):
            for text, place in (("?a", 0), ("a?", 1), ("[?a]", 1), ("[a,?]", 3), ("{k?:v}", 2), ("{k:?v}", 3)):
                self.assertEqual(place_of(text.replace("?", chr(byte))), place, (byte, text))

    def test_words_need_no_blank_beside_brackets_and_strings(self):
        self.assertEqual(lines_in(40, '[a,"b",[c],{"d":e,f:"g"}]'), ['[a, "b", [c], {"d": e, f: "g"}]'])


if __name__ == "__main__":
    unittest.main()
