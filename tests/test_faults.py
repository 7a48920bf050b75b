"""Point 4, and the depth: what's wrong, and at which place it's told."""

import unittest

from helper import WRONG, bytes_of, place_of
from setlines.texts import check, core, format_of, measure, notes, same, short


class TooSoon(unittest.TestCase):
    def test_the_text_s_length(self):
        for text in ("", " ", "\n\n ", "#c", "#c\n", "[", "{", "[a", "[a ", "[a,", "[a, ", "[a#c", "[a#]",
                     "{a", "{a ", "{a:", "{a: \n", "{a:b", "{a:b,", "{a:[", "[[]", '"', '"a', '"a\\', '"a\\"',
                     '["a', '{"a', '{"a"', "[#c\n", "[{a:b}", "[\n\n"):
            self.assertEqual(place_of(text), len(text), text)

    def test_the_answer_of_an_empty_text(self):
        for answer in (check([]), format_of(20, []), short([]), core([]), same([], [97]), measure(20, []), notes([])):
            self.assertEqual(answer, [-100])
        self.assertEqual(same([97], []), [-1000000])


class Faults(unittest.TestCase):
    def test_a_word_or_string_that_has_to_be_there(self):
        for text, place in (("  ,", 2), ("[a,  ,]", 5), ("{a:  ,}", 5), ("{a:\n}", 4), ("{  :a}", 3), ("#c\n:", 3)):
            self.assertEqual(place_of(text), place, text)

    def test_a_byte_that_can_not_stand_in_a_string(self):
        for text, place in (('"ab\n"', 3), ('["a", "b\t"]', 8), ('{"a\x7f":b}', 3), ('{a:"\x80"}', 4),
                            ('"\\a"', 2), ('["\\\n"]', 3), ('"\\\\\\x"', 4)):
            self.assertEqual(place_of(text), place, text)

    def test_something_behind_the_text_s_value(self):
        for text, place in (("a b", 2), ("a\n\nb", 3), ('a "b', 2), ("[]  []", 4), ("[] {", 3), ('"a""b"', 3),
                            ("{}]", 2), ("{} ,", 3), ("a :", 2), ("a #c\n b", 6), ("a \x00", 2)):
            self.assertEqual(place_of(text), place, text)

    def test_the_first_of_several(self):
        self.assertEqual(place_of('[a b "\n'), 3)
        self.assertEqual(place_of("{a:1,a:[,}"), 5)
        self.assertEqual(place_of('"\t\n'), 1)

    def test_each_call_tells_the_place_alone(self):
        for text, place in WRONG:
            given = bytes_of(text)
            for answer in (check(given), short(given), core(given), same(given, [97]), notes(given)):
                self.assertEqual(answer, [-100 - place], text)
            for width in (20, 77, 200):
                self.assertEqual(format_of(width, given), [-100 - place], text)
                self.assertEqual(measure(width, given), [-100 - place], text)
            self.assertEqual(same([97], given), [-1000000 - place], text)


class Depth(unittest.TestCase):
    def test_40_deep(self):
        for text in ("[" * 40 + "]" * 40, "{a:" * 39 + "{}" + "}" * 39, "[{a:" * 20 + "b" + "}]" * 20):
            self.assertIsNone(place_of(text))

    def test_41_deep(self):
        self.assertEqual(place_of("[" * 41 + "]" * 41), 40)
        self.assertEqual(place_of("{a:" * 41), 120)
        self.assertEqual(place_of("{a:" * 40 + " ["), 121)
        self.assertEqual(place_of(" [{a:" * 20 + "\n{"), 101)
        self.assertEqual(place_of("[" * 20000), 40)

    def test_only_those_that_are_around_count(self):
        self.assertIsNone(place_of("[" + "[],{}," * 100 + "]"))
        self.assertIsNone(place_of("[" + ("[" * 39 + "]" * 39 + ",") * 3 + "]"))
        self.assertEqual(place_of("[" + "[" * 39 + "]" * 39 + "," + "[" * 40), 119)


class Length(unittest.TestCase):
    def test_texts_of_20000_bytes(self):
        for text in ("a" * 20000, '"' + "b" * 19998 + '"', "#" * 19998 + "\na", "[" + "a," * 9999 + "]",
                     " " * 19999 + "a", "\n" * 19999 + "a", "[" + "[]," * 6666 + "]", "[" + "#\n" * 9999 + "]"):
            self.assertEqual(len(text), 20000)
            self.assertIsNone(place_of(text))
            self.assertGreater(format_of(20, bytes_of(text))[0], 0)

    def test_a_fault_at_their_end(self):
        self.assertEqual(place_of("[" + "a," * 9999 + ","), 19999)
        self.assertEqual(place_of("[" + "a," * 9999 + "a"), 20000)

    def test_more_than_65536_bytes(self):
        self.assertIsNone(place_of("a" * 65536))
        self.assertEqual(place_of("a" * 65537), 65536)
        self.assertEqual(place_of("a" + " " * 65536), 65536)
        self.assertEqual(place_of(" " * 70000), 65536)
        self.assertEqual(place_of(" " * 70000 + "]"), 65536)
        self.assertEqual(place_of("a b" + " " * 70000), 2)
        given = [97] * 65537
        for answer in (format_of(20, given), short(given), core(given), same(given, []), measure(20, given),
                       notes(given)):
            self.assertEqual(answer, [-65636])
        self.assertEqual(same([97], given), [-1065536])


if __name__ == "__main__":
    unittest.main()
