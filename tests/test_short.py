"""Point 8: short, a text without all that it can do without."""

import itertools
import unittest

from helper import bytes_of, core_of, place_of, short_of
from setlines.texts import check, short

# Texts, with what they are in short. No map has keys out of order, so the core is the same.
ROWS = (
    ("[ ]", "[]"), ("{\n}", "{}"), ("[ a ]", "[a]"), ("[a , b]", "[a,b]"), ("{ a : b }", "{a:b}"),
    ("{a: b, c: d}", "{a:b,c:d}"), ("[[ ], { }]", "[[],{}]"), ("{a: { }, b: [ ]}", "{a:{},b:[]}"),
    ("[ [ [ a ] , b ] , { c : [ d , { e : f } ] } ]", "[[[a],b],{c:[d,{e:f}]}]"))


class Bytes(unittest.TestCase):
    def test_the_answer_byte_by_byte(self):
        self.assertEqual(short(bytes_of("a")), [1, 97])
        self.assertEqual(short(bytes_of(" [ ] ")), [2, 91, 93])
        self.assertEqual(short(bytes_of("[ a, b, ] #c")), [5, 91, 97, 44, 98, 93])
        self.assertEqual(short(bytes_of('{ k : "" }')), [6, 123, 107, 58, 34, 34, 125])

    def test_no_line_s_end_behind_it(self):
        for text in ("a\n", "[a]\n\n", "\n{}\n"):
            self.assertEqual(short_of(text), text.strip("\n"))

    def test_words_as_they_stand(self):
        for word in ("a", "007", "-", "+1.50", "a/b", "..", "True", "_", "abzABZ0189-+._/"):
            self.assertEqual(short_of("\n " + word + " \n"), word)
            self.assertEqual(short_of("[ " + word + " , ]"), "[" + word + "]")
            self.assertEqual(short_of("{ " + word + " : " + word + " }"), "{" + word + ":" + word + "}")

    def test_strings_as_they_stand(self):
        for string in ('""', '" "', '"  a  b "', '"a"', '"#c"', '"a, b: c"', '"[ ] { }"', '",]"', '",}"', '"\\""',
                       '"\\\\"', '"\\n"', '" \\n "', '"\\\\n"', '"\\" , \\" # \\\\ \\n"'):
            self.assertEqual(short_of("\n " + string + " \n"), string)
            self.assertEqual(short_of("[ " + string + " , " + string + " , ]"), "[" + string + "," + string + "]")
            self.assertEqual(short_of("{ " + string + " : " + string + " }"), "{" + string + ":" + string + "}")

    def test_each_byte_of_a_string(self):
        for byte in range(32, 127):
            if chr(byte) not in '"\\':
                string = '"' + chr(byte) * 2 + '"'
                self.assertEqual(short_of(" " + string + " #c"), string)


class LeftOut(unittest.TestCase):
    def test_blanks_and_line_s_ends(self):
        parts = ["[", "a", ",", "{", "k", ":", '"s t"', ",", '"l"', ":", "[", "]", "}", ",", "{", "}", "]"]
        for space in ("", " ", "\n", "   ", "\n\n", " \n ", "\n \n"):
            self.assertEqual(short_of(space + space.join(parts) + space), '[a,{k:"s t","l":[]},{}]')

    def test_rows_and_maps(self):
        for text, told in ROWS:
            self.assertEqual(short_of(text), told)
            self.assertEqual(core_of(text), told)

    def test_commas_behind_the_last(self):
        for text, told in (("[a,]", "[a]"), ("[a, b , ]", "[a,b]"), ("{a: b,}", "{a:b}"), ("{a:b,c:d\n,\n}", "{a:b,c:d}"),
                           ("[[a,],]", "[[a]]"), ("[[],]", "[[]]"), ("{a:{b:[c,],},}", "{a:{b:[c]}}"),
                           ("[{},[],]", "[{},[]]"), ('["a,",]', '["a,"]')):
            self.assertEqual(short_of(text), told)
            self.assertEqual(core_of(text), told)

    def test_comments_wherever_they_may_stand(self):
        for text, told in (
                ("#c\na", "a"), ("a#c", "a"), ("a #c\n", "a"), ("a\n#c\n#d", "a"), ("#c\n#d\na", "a"), ("[#c\n]", "[]"),
                ("{#c\n}", "{}"), ("[#c\n#d\n]", "[]"), ("[#c\na]", "[a]"), ("{#c\na:b}", "{a:b}"),
                ("[a,#c\nb]", "[a,b]"), ("[a,\n#c\nb]", "[a,b]"), ("[a,#c\n]", "[a]"), ("[a#c\n]", "[a]"),
                ("[a#c\n#d\n]", "[a]"), ("{a:b,#c\nd:e}", "{a:b,d:e}"), ("{a:b,#c\n}", "{a:b}"), ("{a:b#c\n}", "{a:b}"),
                ("{a:b\n#c\n#d\n}", "{a:b}"), ("[[]#c\n]", "[[]]"), ("{a:{}#c\n}", "{a:{}}"), ("{a:[#c\n]}", "{a:[]}"),
                ("[[a#c\n],#d\n{#e\nb:c,#f\n},#g\n]#h\n#i", "[[a],{b:c}]")):
            self.assertEqual(short_of(text), told, text)
            self.assertEqual(core_of(text), told, text)

    def test_what_stands_in_comments(self):
        self.assertEqual(short_of('#[a, "b\n[a, # , ] } \\ "c" k: v\nb] # [c]'), "[a,b]")

    def test_entries_keep_their_order(self):
        for text in ("{b:1,a:2}", '{c:{b:1,a:2},"c":[{z:1,y:2}],b:3}', "{ab:1,a:2}"):
            self.assertEqual(short_of(text), text)

    def test_values_keep_their_order(self):
        for text in ("[b,a]", "[b,a,b,a]", '[z,"y",[],{},[x],a]'):
            self.assertEqual(short_of(text), text)


class AsShortAsCanBe(unittest.TestCase):
    def test_all_texts_of_some_bytes(self):
        # What's in short is told by a text that isn't longer; so no other that
        # says the same is shorter.
        readable = 0
        for length in range(6):
            for signs in itertools.product('a[]{}:,# "', repeat=length):
                text = "".join(signs)
                if check(bytes_of(text)) != [0]:
                    continue
                readable += 1
                told = short_of(text)
                self.assertLessEqual(len(told), length, text)
                self.assertEqual(short_of(told), told)
                self.assertEqual(len(core_of(text)), len(told))
                self.assertEqual(core_of(told), core_of(text))
        self.assertGreater(readable, 1000)


class Limits(unittest.TestCase):
    def test_texts_of_20000_bytes(self):
        for text, told in (
                ("a" * 20000, "a" * 20000), ('"' + " " * 19998 + '"', '"' + " " * 19998 + '"'),
                ("#" * 19998 + "\na", "a"), (" " * 19999 + "a", "a"), ("a" + "\n" * 19999, "a"),
                ("[" + "a," * 9999 + "]", "[" + ",".join("a" * 9999) + "]"), ("[" + "#\n" * 9999 + "]", "[]"),
                ("[" + "[]," * 6666 + "]", "[" + ",".join(["[]"] * 6666) + "]")):
            self.assertEqual(len(text), 20000)
            self.assertEqual(short_of(text), told)
            self.assertEqual(core_of(text), told)

    def test_40_deep(self):
        for text in ("[" * 40 + "]" * 40, "[" * 40 + "a" + "]" * 40, "{a:" * 39 + "{}" + "}" * 39,
                     "[{a:" * 20 + "b" + "}]" * 20):
            self.assertEqual(short_of(text), text)
            self.assertEqual(short_of(" " + " \n".join(text) + " "), text)
            self.assertEqual(core_of(text), text)

    def test_40_deep_with_comments_and_commas(self):
        self.assertEqual(short_of("[#c\n" * 40 + "a" + ",#d\n]" * 40), "[" * 40 + "a" + "]" * 40)
        self.assertEqual(short_of("{#c\na : " * 39 + "{}" + " ,#d\n}" * 39), "{a:" * 39 + "{}" + "}" * 39)

    def test_20000_bytes_40_deep(self):
        inner = "a," * 9959 + "a,"
        text = "[" * 40 + inner + "]" * 40
        self.assertEqual(len(text), 20000)
        self.assertEqual(short_of(text), "[" * 40 + inner[:-1] + "]" * 40)
        many = "[" + ("[" * 39 + "]" * 39 + ",") * 253 + "]"
        self.assertLess(len(many), 20000)
        self.assertEqual(short_of(many), many.replace(",]", "]"))

    def test_41_deep(self):
        for text, place in (("[" * 41 + "]" * 41, 40), ("{a:" * 41 + "b" + "}" * 41, 120), ("[" * 20000, 40)):
            self.assertEqual(place_of(text), place)
            self.assertEqual(short(bytes_of(text)), [-100 - place])


if __name__ == "__main__":
    unittest.main()
