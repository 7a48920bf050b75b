"""What's promised beyond, over all calls together, at texts of every kind."""

import re
import unittest

from helper import WRONG, bytes_of, core_of, lines_in, measured, notes_in, same_of, short_of
from setlines.texts import check, core, format_of, measure, notes, same, short

WIDTHS = (20, 21, 27, 40, 66, 100, 199, 200)
SETTINGS = """
# Settings of a mill,   \x20
{
  name: "The \\"old\\" mill", wheels: [ {teeth: 48, turns: 12.5, }, # the big one
    {teeth: 16, turns: 37.5} # the small one
    # the third is worn
  ],
  "# of sacks": {mon: 12, tue: 9, # a feast
    wed: 0, thu: 11,
    # not open from here on
    fri: 0, sat: 0, sun: 0,},
  empty: [], none: {}, silent: [
  # nothing yet
  ], path: /usr/share/mill/a-very-long-path/that-goes-on/and_on/and+on/without.an.end/to/it, #keep
  deep: [[[[[["[", "]", [], [[]], {a: {b: {c: {d: {e: f}}}}}]]]]]], last: "\\\\\\n"
} # the end
# of it
"""
TEXTS = (
    SETTINGS, "a", '"a"', "[]", "{}", "[ a ]", "{b:1,a:2}", "#\na", "a#", "a\n#\n", "[#\n]", "{#c\n#d\n}",
    "#[a]\n[a,#b\n]", "[a,b,[c,#d\n]]", "[[],{},[[]],[{}],{a:[]},{a:{}}]", "[" + "ab," * 60 + "]",
    "{" + ",".join(["k" + str(k) + ":" + "v" * (k + 1) for k in range(40)]) + "}", "[" + "x" * 250 + ",[y]]",
    "{" + "x" * 250 + ":[],y:{},#z\n}", "[[" + "x" * 18 + "],[" + "y" * 16 + "],[" + "z" * 15 + "]]",
    '{"a b":[{" ":" # "},#c\n"#"]}#', "[" * 40 + "]" * 40, "[" * 40 + "a" + "]" * 40, "[#c\n" * 40 + "]" * 40,
    "{a:" * 39 + "[]" + "}" * 39 + "#" + "c" * 300, "#" + "c" * 300 + "\n[a,b]#" + "d" * 300 + "\n#" + "e" * 300,
    "[a, # " + "c" * 300 + "\n[b, c, d], # " + "e" * 300 + "\n]", "[" + "a," * 3999 + "]", "a#" + "b" * 19996,
    "[" + "#\n" * 4999 + "]", "[" * 40 + "a," * 190 + "]" * 40)
# A line's things ahead of a comment, and one thing alone with its key and comma.
BEFORE_NOTE = re.compile(r'(?:"(?:[^"\\]|\\.)*"|[^"#])*')
PLAIN = r'(?:[a-zA-Z0-9_.+/-]+|"(?:[^"\\]|\\.)*")'
ONE_THING = re.compile(" *(?:" + PLAIN + ": )?(?:" + PLAIN + r"|\[\]|\{\}|[\[\]{}]),?")


def without_note(line):
    return BEFORE_NOTE.match(line).group().rstrip(" ")


def broken_in(lines):
    """The lines of each row and map that is told broken, from its bracket to the one that closes it."""
    opened = []
    for k, line in enumerate(lines):
        told = without_note(line)
        if told.lstrip(" ")[:1] in ("]", "}"):
            yield lines[opened.pop():k + 1]
        elif told.endswith(("[", "{")):
            opened.append(k)


def in_one_line(lines):
    """What's told broken and has no comment in it, told flat in the line that it begins in."""
    line = lines[0]
    for last, told in zip(lines, lines[1:-1]):
        line += ("" if last.endswith(("[", "{")) else " ") + told.strip(" ")
    return line + without_note(lines[-1]).strip(" ")


class Whole(unittest.TestCase):
    def each_set(self):
        for text in TEXTS:
            for width in WIDTHS:
                yield text, width, lines_in(width, text)

    def test_it_can_be_read(self):
        for text in TEXTS:
            self.assertEqual(check(bytes_of(text)), [0])
        for text, width, lines in self.each_set():
            told = format_of(width, bytes_of(text))
            self.assertEqual(check(told[1:]), [0])
            # What's set in lines has to be short enough to be handed in itself.
            self.assertLessEqual(told[0], 20000)

    def test_set_in_lines_it_says_the_same(self):
        for text in TEXTS:
            given = bytes_of(text)
            for width in WIDTHS:
                told = format_of(width, given)[1:]
                self.assertEqual(notes(told), notes(given))
                self.assertEqual(core(told), core(given))
                self.assertEqual(short(told), short(given))
                self.assertEqual(same(told, given), [1])
                self.assertEqual(same(given, told), [1])

    def test_set_again_it_is_left_as_it_is(self):
        for text, width, lines in self.each_set():
            told = format_of(width, bytes_of(text))
            self.assertEqual(format_of(width, told[1:]), told)
            # At any other width it's set as the text itself is.
            self.assertEqual(format_of(33, told[1:]), format_of(33, bytes_of(text)))

    def test_measured(self):
        for text, width, lines in self.each_set():
            self.assertEqual(measured(width, text), [len(lines), max([len(line) for line in lines])])
            self.assertEqual(measure(width, format_of(width, bytes_of(text))[1:]), measured(width, text))

    def test_each_line_s_length(self):
        for text, width, lines in self.each_set():
            for line in lines:
                told = without_note(line)
                self.assertTrue(len(told) <= width or ONE_THING.fullmatch(told), line)

    def test_no_line_ends_with_a_blank(self):
        for text, width, lines in self.each_set():
            for line in lines:
                self.assertEqual(line, line.rstrip(" "))
                self.assertNotEqual(line, "")

    def test_nothing_is_broken_without_need(self):
        for text, width, lines in self.each_set():
            for broken in broken_in(lines):
                # A comment behind the whole isn't in it.
                inner = broken[:-1] + [without_note(broken[-1])]
                if all(without_note(line) == line for line in inner):
                    self.assertGreater(len(in_one_line(inner)), width)

    def test_in_short(self):
        for text in TEXTS:
            told = short_of(text)
            self.assertEqual(short_of(told), told)
            self.assertEqual(core_of(told), core_of(text))
            self.assertEqual(same_of(told, text), [1])
            self.assertEqual(same_of(core_of(text), text), [1])
            self.assertEqual(notes_in(told), [])
            self.assertEqual(len(core_of(text)), len(told))
            for width in WIDTHS:
                self.assertLess(len(told), format_of(width, bytes_of(text))[0])

    def test_no_two_of_them_say_the_same(self):
        cores = [core_of(text) for text in TEXTS]
        for first, one in zip(TEXTS[:20], cores):
            for second, other in zip(TEXTS[:20], cores):
                self.assertEqual(same_of(first, second), [1 if one == other else 0])

    def test_told_in_full(self):
        self.assertEqual(notes_in(SETTINGS), [
            "# Settings of a mill,", "# the big one", "# the small one", "# the third is worn", "# a feast",
            "# not open from here on", "# nothing yet", "#keep", "# the end", "# of it"])
        self.assertEqual(lines_in(40, SETTINGS)[:18], [
            "# Settings of a mill,", "{", '  name: "The \\"old\\" mill",', "  wheels: [",
            "    {teeth: 48, turns: 12.5}, # the big one", "    {teeth: 16, turns: 37.5} # the small one",
            "    # the third is worn", "  ],", '  "# of sacks": {', "    mon: 12,", "    tue: 9, # a feast",
            "    wed: 0,", "    thu: 11,", "    # not open from here on", "    fri: 0,", "    sat: 0,", "    sun: 0",
            "  },"])


class Unread(unittest.TestCase):
    def test_all_calls_answer_alike(self):
        right = bytes_of(SETTINGS)
        for text, place in WRONG:
            given = bytes_of(text)
            alone = [-100 - place]
            for answer in (check(given), format_of(20, given), format_of(200, given), short(given), core(given),
                           same(given, right), same(given, given), measure(20, given), measure(200, given),
                           notes(given)):
                self.assertEqual(answer, alone, text)
            self.assertEqual(same(right, given), [-1000000 - place], text)

    def test_what_is_cut_off(self):
        right = bytes_of("a")
        for end in range(SETTINGS.rindex("}") + 1):
            given = bytes_of(SETTINGS[:end])
            for answer in (check(given), format_of(60, given), short(given), core(given), same(given, right),
                           measure(60, given), notes(given)):
                self.assertEqual(answer, [-100 - end])
            self.assertEqual(same(right, given), [-1000000 - end])


if __name__ == "__main__":
    unittest.main()
