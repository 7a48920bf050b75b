"""Points 5 and 6: flat and broken, and a text's own comments."""

import unittest

from helper import bytes_of, lines_in
from setlines.texts import format_of


class Flat(unittest.TestCase):
    def test_values(self):
        for text in ("a", "[]", "{}", "[a, b]", "{a: b, c: d}", "{a: [b, {c: d}], e: {}}"):
            self.assertEqual(lines_in(40, text), [text])
            self.assertEqual(lines_in(40, text.replace(" ", "")), [text])
            self.assertEqual(lines_in(40, text.replace(" ", "\n\n  ")), [text])

    def test_the_answer_byte_by_byte(self):
        self.assertEqual(format_of(20, bytes_of("[a,b]")), [7, 91, 97, 44, 32, 98, 93, 10])
        told = bytes_of("{\n  a: [\n    #\n  ]\n}\n")
        self.assertEqual(format_of(20, bytes_of("{a:[#\n]}")), [len(told)] + told)

    def test_what_can_not_be_broken_is_told_flat_however_long(self):
        for text in ("a" * 300, '"' + "b" * 300 + '"'):
            self.assertEqual(lines_in(20, text), [text])
            self.assertEqual(lines_in(20, "[" + text + "]"), ["[", "  " + text, "]"])
            self.assertEqual(lines_in(20, "{" + text + ":[]}"), ["{", "  " + text + ": []", "}"])
            self.assertEqual(lines_in(20, "{" + text + ":{},a:b}"), ["{", "  " + text + ": {},", "  a: b", "}"])


class Width(unittest.TestCase):
    def test_a_row_that_just_fits(self):
        self.assertEqual(lines_in(20, "[aaaa, bbbb, cccccc]"), ["[aaaa, bbbb, cccccc]"])
        self.assertEqual(lines_in(20, "[aaaa, bbbb, ccccccc]"), ["[", "  aaaa,", "  bbbb,", "  ccccccc", "]"])
        self.assertEqual(lines_in(21, "[aaaa, bbbb, ccccccc]"), ["[aaaa, bbbb, ccccccc]"])

    def test_a_map_that_just_fits(self):
        self.assertEqual(lines_in(20, "{aaa: bbb, ccc: ddd}"), ["{aaa: bbb, ccc: ddd}"])
        self.assertEqual(lines_in(20, "{aaa: bbb, ccc: dddd}"), ["{", "  aaa: bbb,", "  ccc: dddd", "}"])

    def test_each_width_against_the_length(self):
        for length in range(20, 201):
            text = "[" + "a" * (length - 5) + ", b]"
            self.assertEqual(lines_in(length, text), [text])
            if length > 20:
                self.assertEqual(lines_in(length - 1, text), ["[", "  " + "a" * (length - 5) + ",", "  b", "]"])

    def test_blanks_in_front_count(self):
        self.assertEqual(lines_in(20, "[#c\n[aaaa,bbbb,cccc]]"), ["[", "  #c", "  [aaaa, bbbb, cccc]", "]"])
        self.assertEqual(lines_in(20, "[#c\n[aaaa,bbbb,ccccc]]"),
                         ["[", "  #c", "  [", "    aaaa,", "    bbbb,", "    ccccc", "  ]", "]"])

    def test_the_comma_behind_counts(self):
        self.assertEqual(lines_in(20, "[[aaaa,bbbb,ccc],d]"), ["[", "  [aaaa, bbbb, ccc],", "  d", "]"])
        self.assertEqual(lines_in(20, "[[aaaa,bbbb,cccc],d]"),
                         ["[", "  [", "    aaaa,", "    bbbb,", "    cccc", "  ],", "  d", "]"])
        self.assertEqual(lines_in(20, "[d,[aaaa,bbbb,cccc]]"), ["[", "  d,", "  [aaaa, bbbb, cccc]", "]"])

    def test_a_comma_that_is_not_told_does_not_count(self):
        self.assertEqual(lines_in(20, "[d,[aaaa,bbbb,cccc,],]"), ["[", "  d,", "  [aaaa, bbbb, cccc]", "]"])

    def test_the_key_counts(self):
        self.assertEqual(lines_in(20, "{#c\nk:[aaaa,bbbb,c]}"), ["{", "  #c", "  k: [aaaa, bbbb, c]", "}"])
        self.assertEqual(lines_in(20, "{#c\nk:[aaaa,bbbb,cc]}"),
                         ["{", "  #c", "  k: [", "    aaaa,", "    bbbb,", "    cc", "  ]", "}"])
        self.assertEqual(lines_in(20, "{k:[aaaa,bbbb,c],l:m}"),
                         ["{", "  k: [", "    aaaa,", "    bbbb,", "    c", "  ],", "  l: m", "}"])
        self.assertEqual(lines_in(20, "{" + "k" * 30 + ":[a]}"), ["{", "  " + "k" * 30 + ": [", "    a", "  ]", "}"])

    def test_a_comment_behind_does_not_count(self):
        self.assertEqual(lines_in(20, "[aaaa, bbbb, cccccc] # and so on"), ["[aaaa, bbbb, cccccc] # and so on"])
        self.assertEqual(lines_in(20, "[[aaaa,bbbb,ccc], # and so on\nd]"),
                         ["[", "  [aaaa, bbbb, ccc], # and so on", "  d", "]"])

    def test_nested(self):
        self.assertEqual(lines_in(20, "[[a,b],[[cccccc,dddddd,eeeeee]],{f:{g:[h,i]}}]"),
                         ["[", "  [a, b],", "  [", "    [", "      cccccc,", "      dddddd,", "      eeeeee", "    ]",
                          "  ],", "  {f: {g: [h, i]}}", "]"])
        self.assertEqual(lines_in(20, "{aa:{bb:{cc:[ddd,eeee]}}}"),
                         ["{", "  aa: {", "    bb: {", "      cc: [", "        ddd,", "        eeee", "      ]", "    }",
                          "  }", "}"])

    def test_40_deep(self):
        lines = [" " * (2 * i) + "[" for i in range(40)]
        lines = lines + [" " * 80 + "a"] + [line.replace("[", "]") for line in reversed(lines)]
        self.assertEqual(lines_in(20, "[" * 40 + "a#c\n" + "]" * 40),
                         [line + " #c" if line.endswith("a") else line for line in lines])
        self.assertEqual(lines_in(81, "[" * 40 + "a" + "]" * 40), ["[" * 40 + "a" + "]" * 40])
        # The 40 shrink by two brackets a level as they move in by two blanks.
        self.assertEqual(lines_in(80, "[" * 40 + "a" + "]" * 40), lines)
        # An empty row is never broken for its length.
        self.assertEqual(lines_in(20, "[" * 40 + "]" * 40)[39], " " * 78 + "[]")


class Comments(unittest.TestCase):
    def test_one_anywhere_in_it_breaks_it(self):
        self.assertEqual(lines_in(200, "[a,[b,[c#d\n]],[e]]"),
                         ["[", "  a,", "  [", "    b,", "    [", "      c #d", "    ]", "  ],", "  [e]", "]"])
        self.assertEqual(lines_in(200, "{a:{b:{#c\n}},d:{e:f}}"),
                         ["{", "  a: {", "    b: {", "      #c", "    }", "  },", "  d: {e: f}", "}"])

    def test_empty_but_for_comments(self):
        self.assertEqual(lines_in(20, "[#c\n#d\n]"), ["[", "  #c", "  #d", "]"])
        self.assertEqual(lines_in(20, "{a:[],b:{#c\n},}"), ["{", "  a: [],", "  b: {", "    #c", "  }", "}"])

    def test_one_behind_it_or_beside_it_does_not(self):
        self.assertEqual(lines_in(20, "[a] #c"), ["[a] #c"])
        self.assertEqual(lines_in(20, "[[a], #c\n[b],\n#d\n[c]]"), ["[", "  [a], #c", "  [b],", "  #d", "  [c]", "]"])

    def test_in_the_last_line_of_what_is_broken(self):
        self.assertEqual(lines_in(20, "[[aaaaaaa,bbbbbbb,ccccccc], #d\ne]"),
                         ["[", "  [", "    aaaaaaa,", "    bbbbbbb,", "    ccccccc", "  ], #d", "  e", "]"])
        self.assertEqual(lines_in(20, "[aaaaaaa,bbbbbbb,ccccccc] #d"),
                         ["[", "  aaaaaaa,", "  bbbbbbb,", "  ccccccc", "] #d"])

    def test_between_values(self):
        self.assertEqual(lines_in(20, "[\n#a\nb,\n#c\n#d\ne,\n#f\n]"),
                         ["[", "  #a", "  b,", "  #c", "  #d", "  e", "  #f", "]"])


class OwnComments(unittest.TestCase):
    def test_ahead_of_the_value(self):
        self.assertEqual(lines_in(20, "#a\n  #b\n\n c"), ["#a", "#b", "c"])
        self.assertEqual(lines_in(20, " # a\n[b]"), ["# a", "[b]"])

    def test_behind_the_value(self):
        self.assertEqual(lines_in(20, "a#b"), ["a #b"])
        self.assertEqual(lines_in(20, "[a]   #b\n   #c"), ["[a] #b", "#c"])
        self.assertEqual(lines_in(20, "{#a\n}#b\n"), ["{", "  #a", "} #b"])

    def test_in_lines_of_their_own_behind_it(self):
        self.assertEqual(lines_in(20, "a\n#b"), ["a", "#b"])
        self.assertEqual(lines_in(20, "{a:b}\n\n  #c\n#d\n"), ["{a: b}", "#c", "#d"])

    def test_they_do_not_break_the_value(self):
        self.assertEqual(lines_in(20, "#a\n[b]#c\n#d"), ["#a", "[b] #c", "#d"])


if __name__ == "__main__":
    unittest.main()
