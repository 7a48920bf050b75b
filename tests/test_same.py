"""Point 9: same, two texts compared by what they say."""

import itertools
import unittest

from helper import WRONG, bytes_of, core_of, same_of
from setlines.texts import same

# In each group all texts say the same; no two groups do.
GROUPS = (
    ("a", " a", "a\n", "#c\na", "a #c", "a\n#c", "\n #c\n\n #d\n a #e\n#f\n"),
    ('"a"', ' "a" ', '\n"a"#c'),
    ("A",), ("ab",), ("aa",), ("b",), ("1",), ("01",), ("1.0",), ("+1",),
    ('""',), ('" "',), ('"a "',), ('" a"',), ('"ab"',), ('"#c"',), ('"\\n"',), ('"n"',), ('"\\\\n"',),
    ("[]", "[ ]", "[\n]", "[#c\n]", "#[a]\n[]"), ("{}", "{ }", "{\n}", "{#c\n#d\n}", "{} #{a: b}"),
    ("[[]]", "[[],]", "[ [ ] ]", "[[]#c\n]"), ("[{}]", "[{},]"), ("[[],[]]", "[[], []]"), ("[[[]]]",),
    ("[a]", "[ a ]", "[a,]", "[\na\n,\n]", "[#c\na]", "[a#c\n]", "[a,#c\n]", "[a\n#c\n#d\n]"),
    ("[aa]",), ('["a"]',), ('"[a]"',), ("[[a]]",), ("{a:a}", "{a: a}", "{a\n:\na,}"), ('{"a":a}',), ('{a:"a"}',),
    ("[a,b]", "[a, b]", "[a,b,]", "[a , #c\nb #d\n]"), ("[b,a]", "[b, a]", "[b\n,\na\n]"),
    ("[a,a]",), ("[a,b,a]",), ("[a,[b]]",), ("[[a],b]",), ("[[a,b]]",), ("[a,b,c]",), ("[b,a,c]",), ('"[a,b]"',),
    ("{a:1,b:2}", "{b:2,a:1}", "{ b: 2, a: 1, }", "{#c\nb : 2, #d\na\n:1#e\n}"),
    ("{a:2,b:1}", "{b:1,a:2}"), ("{a:1}",), ("{a:1,b:2,c:3}", "{c:3,a:1,b:2}", "{c:3,b:2,a:1,}"),
    ("{a:1,aa:2}", "{aa:2,a:1}"), ('{a:1,"a":2}', '{"a":2,a:1}'), ('{a:2,"a":1}', '{"a":1,a:2}'),
    ("[a,1,b,2]",), ("[{a:1,b:2}]", "[{b:2,a:1},]"), ("[{a:1},{b:2}]",), ("[{b:2},{a:1}]",),
    ("{k:{a:1,b:[{d:3,c:4},e]},j:f}", "{j:f,k:{b:[{c:4,d:3},e],a:1}}", "{j:f, k:{a:1, b:[{d:3, c:4}, #g\ne,]},}"),
    ("{k:{a:1,b:[e,{d:3,c:4}]},j:f}", "{j:f,k:{b:[e,{c:4,d:3}],a:1}}"))


class Same(unittest.TestCase):
    def test_texts_that_say_the_same(self):
        for group in GROUPS:
            for first, second in itertools.product(group, repeat=2):
                self.assertEqual(same_of(first, second), [1], (first, second))

    def test_texts_that_do_not(self):
        for one, other in itertools.permutations(GROUPS, 2):
            self.assertEqual(same_of(one[0], other[0]), [0], (one, other))
            self.assertEqual(same_of(one[-1], other[-1]), [0], (one, other))

    def test_other_blanks_and_line_s_ends(self):
        parts = ["[", "a", ",", "{", "k", ":", '"s t"', ",", '"l"', ":", "[", "]", "}", ",", "{", "}", "]"]
        spaces = ("", " ", "\n", "   ", "\n\n", " \n ")
        for first, second in itertools.product(spaces, repeat=2):
            self.assertEqual(same_of(first.join(parts), second + second.join(parts) + second), [1])
            self.assertEqual(same_of(first.join(parts), second.join(parts).replace("s t", "st")), [0])

    def test_entries_in_any_order(self):
        entries = ("a:1", '"a":2', "b:[c,d]", "e:{g:3,f:4}")
        for order in itertools.permutations(entries):
            text = "{" + ", ".join(order) + "}"
            self.assertEqual(same_of(text, "{" + ",".join(entries) + "}"), [1])
            self.assertEqual(same_of(text, "{e:{f:4,g:3}," + ",".join(entries[:3]) + ",}"), [1])
            self.assertEqual(same_of(text, "{e:{f:4,g:3},b:[d,c]," + ",".join(entries[:2]) + "}"), [0])
            self.assertEqual(same_of(text, "{" + ",".join(entries[:3]) + "}"), [0])

    def test_values_in_another_order(self):
        for order in itertools.permutations(("a", '"a"', "[b]", "{c:1}")):
            text = "[" + ",".join(order) + "]"
            is_same = order == ("a", '"a"', "[b]", "{c:1}")
            self.assertEqual(same_of(text, '[a,"a",[b],{c:1}]'), [1 if is_same else 0])

    def test_one_s_core_begins_with_the_other_s(self):
        for first, second in (("a", "ab"), ("1", "10"), ("a", "a.b"), ("-", "--"), ("a #b", "ab"), ("a", "a" * 300)):
            self.assertTrue(core_of(second).startswith(core_of(first)))
            self.assertEqual(same_of(first, second), [0])
            self.assertEqual(same_of(second, first), [0])

    def test_one_list_as_both(self):
        for text in ("a", '"s"', "[]", "{b: 1, a: [c, #d\n]}", "[" * 40 + "]" * 40):
            given = bytes_of(text)
            self.assertEqual(same(given, given), [1])
            self.assertEqual(given, bytes_of(text))
        for text, place in WRONG:
            given = bytes_of(text)
            self.assertEqual(same(given, given), [-100 - place])
            self.assertEqual(given, bytes_of(text))


class Wrong(unittest.TestCase):
    def test_the_first(self):
        for text, place in WRONG:
            for right in ("a", "{k: [v]} #c", "[" * 40 + "]" * 40):
                self.assertEqual(same_of(text, right), [-100 - place], text)

    def test_the_second(self):
        for text, place in WRONG:
            for right in ("a", "{k: [v]} #c", "[" * 40 + "]" * 40):
                self.assertEqual(same_of(right, text), [-1000000 - place], text)

    def test_both(self):
        for (first, place), (second, later) in itertools.product(WRONG, repeat=2):
            self.assertEqual(same_of(first, second), [-100 - place], (first, second))

    def test_an_empty_text(self):
        self.assertEqual(same([], []), [-100])
        self.assertEqual(same([], bytes_of("a")), [-100])
        self.assertEqual(same([], bytes_of("[,")), [-100])
        self.assertEqual(same(bytes_of("a"), []), [-1000000])
        self.assertEqual(same(bytes_of("[,"), []), [-101])


class Limits(unittest.TestCase):
    def test_20000_bytes(self):
        for text, other in (("a" * 20000, "a" * 19999 + "b"), ("[" + "a," * 9999 + "]", "[" + "a," * 9998 + "b,]"),
                            (" " * 19999 + "a", "a" + " " * 19998), ("[" + "#\n" * 9999 + "]", "[]")):
            self.assertEqual(len(text), 20000)
            self.assertEqual(same_of(text, text), [1])
            is_same = core_of(text) == core_of(other)
            self.assertEqual(same_of(text, other), [1 if is_same else 0])
            self.assertEqual(same_of(other, text), [1 if is_same else 0])

    def test_20000_bytes_of_entries(self):
        entries = [format(number, "04x") + ":1" for number in range(2857)]
        text = "{" + ",".join(entries) + "}"
        self.assertEqual(len(text), 20000)
        self.assertEqual(same_of(text, "{" + ",".join(reversed(entries)) + "}"), [1])
        self.assertEqual(same_of(text, "{" + ",".join(reversed(entries[1:])) + "}"), [0])

    def test_a_fault_at_the_end_of_20000_bytes(self):
        text = "[" + "a," * 9999 + ","
        self.assertEqual(same_of(text, "a"), [-20099])
        self.assertEqual(same_of("a", text), [-1019999])
        self.assertEqual(same_of("a", " " * 20000), [-1020000])

    def test_40_deep(self):
        self.assertEqual(same_of("{b:1,a:" * 40 + "2" + "}" * 40, "{a:" * 40 + "2" + ",b:1}" * 40), [1])
        self.assertEqual(same_of("{b:1,a:" * 40 + "2" + "}" * 40, "{a:" * 40 + "3" + ",b:1}" * 40), [0])
        self.assertEqual(same_of("[" * 40 + "]" * 40, "[#c\n" * 40 + " ]" * 40), [1])
        self.assertEqual(same_of("[" * 40 + "]" * 40, "[" * 39 + "]" * 39), [0])

    def test_41_deep(self):
        for text, place in (("[" * 41 + "]" * 41, 40), ("{a:" * 41 + "b" + "}" * 41, 120), ("[" * 20000, 40)):
            self.assertEqual(same_of(text, "a"), [-100 - place])
            self.assertEqual(same_of("a", text), [-1000000 - place])
            self.assertEqual(same_of(text, text), [-100 - place])


if __name__ == "__main__":
    unittest.main()
