"""Point 2: rows, maps, entries, keys, commas."""

import unittest

from helper import lines_in, place_of


class Rows(unittest.TestCase):
    def test_rows_and_maps(self):
        for text in ("[]", "{}", "[a]", "{a: b}", "[a, b]", "{a: b, c: d}", "[[], {}]", "{a: {}, b: []}"):
            self.assertIsNone(place_of(text), text)
            self.assertEqual(lines_in(20, text), [text])

    def test_one_comma_behind_the_last(self):
        self.assertEqual(lines_in(20, "[a,]"), ["[a]"])
        self.assertEqual(lines_in(20, "[a, b , ]"), ["[a, b]"])
        self.assertEqual(lines_in(20, "{a: b,}"), ["{a: b}"])
        self.assertEqual(lines_in(20, "[[a,],]"), ["[[a]]"])

    def test_commas_that_can_not_stand(self):
        for text, place in (("[,]", 1), ("{,}", 1), ("[a,,]", 3), ("[a,,b]", 3), ("[a, ,b]", 4),
                            ("{a:b,,}", 5), ("{a:b,,c:d}", 5), ("[,a]", 1), ("{,a:b}", 1),
                            ("a,", 1), ("[a],", 3), (",", 0), (",a", 0)):
            self.assertEqual(place_of(text), place, text)

    def test_a_comma_has_to_be_between_two(self):
        for text, place in (("[a b]", 3), ('[a"b"]', 2), ('["a"b]', 4), ("[a[b]]", 2), ("[[a]b]", 4),
                            ("[[][]]", 3), ("{a:b c:d}", 5), ('{a:b"c":d}', 4), ("{a:{}b:c}", 5)):
            self.assertEqual(place_of(text), place, text)

    def test_brackets_that_do_not_match(self):
        for text, place in (("[}", 1), ("{]", 1), ("[a}", 2), ("{a:b]", 4), ("[a,}", 3), ("[{]}", 2),
                            ("]", 0), ("}", 0), ("[]]", 2), ("a]", 1)):
            self.assertEqual(place_of(text), place, text)


class Entries(unittest.TestCase):
    def test_an_entry_without_key_colon_or_value(self):
        for text, place in (("{:b}", 1), ("{ : b}", 2), ("{a:b, :c}", 6), ("{a}", 2), ("{a, b:c}", 2),
                            ("{a b}", 3), ("{a:}", 3), ("{a: }", 4), ("{a:,b:c}", 3), ("{a::b}", 3),
                            ("{a:b:c}", 4), ("{a:b,c}", 6)):
            self.assertEqual(place_of(text), place, text)

    def test_a_key_is_a_word_or_a_string(self):
        self.assertEqual(lines_in(20, '{"a b":c}'), ['{"a b": c}'])
        self.assertEqual(lines_in(20, '{"":c}'), ['{"": c}'])
        for text, place in (("{[a]:b}", 1), ("{{}:b}", 1), ("{a:b,[]:c}", 5)):
            self.assertEqual(place_of(text), place, text)

    def test_no_entry_in_a_row_or_text(self):
        for text, place in (("[a:b]", 2), ("a:b", 1), ('["a":b]', 4)):
            self.assertEqual(place_of(text), place, text)

    def test_a_key_that_is_there_already(self):
        for text, place in (("{a:b,a:c}", 5), ("{a:b, a:b}", 6), ('{"a":b,\n"a":c}', 8), ("{a:b,c:d,a:e}", 9),
                            ("{a:{b:c,b:d},a:e}", 8), ("{a:b,c:{},a:[]}", 10)):
            self.assertEqual(place_of(text), place, text)

    def test_it_is_told_ahead_of_what_is_wrong_behind_it(self):
        for text in ("{a:b,a", "{a:b,a}", "{a:b,a c}", "{a:b,a:", "{a:b,a#c\n:d}", "{a:b,a\x00"):
            self.assertEqual(place_of(text), 5, text)

    def test_a_string_that_does_not_end_is_no_key_yet(self):
        self.assertEqual(place_of('{"a":b,"a'), 9)
        self.assertEqual(place_of('{"a":b,"a\t"'), 9)

    def test_keys_are_told_by_their_bytes(self):
        for text in ('{a:1,"a":2}', "{a:1,A:2}", "{1:a,01:b,+1:c,1.0:d}", "{a:1,aa:2,ab:3}",
                     '{"a":1,"a ":2," a":3}', '{"\\n":1,"n":2}'):
            self.assertIsNone(place_of(text), text)

    def test_keys_of_different_maps(self):
        for text in ("[{a:1},{a:1}]", "{a:{a:{a:1}}}", "{a:{b:1},b:{a:1}}"):
            self.assertIsNone(place_of(text), text)


if __name__ == "__main__":
    unittest.main()
