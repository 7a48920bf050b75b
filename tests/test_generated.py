"""Texts made by the hundred: what's told of them is told anew from what was meant.

A member is [key, value, note]: key and note are texts or None; a value is a
text or (bracket, members). A note in a line of its own is a text by itself.
"""

import random
import re
import unittest

from helper import core_of, lines_in, measured, notes_in, place_of, same_of, short_of

WIDTHS = (20, 23, 31, 40, 57, 80, 200)
CLOSING = {"[": "]", "{": "}"}
BEFORE_NOTE = re.compile(r'(?:"(?:[^"\\]|\\.)*"|[^"#])*')
PLAIN = r'(?:[a-zA-Z0-9_.+/-]+|"(?:[^"\\]|\\.)*")'
ONE_THING = re.compile(" *(?:" + PLAIN + ": )?(?:" + PLAIN + r"|\[\]|\{\}|[\[\]{}]),?")


class Maker:
    """Makes what a text says, and writes it down in some way."""

    def __init__(self, seed, notes):
        self.random = random.Random(seed)
        self.notes = notes

    def plain(self):
        if self.random.random() < 0.7:
            return "".join(self.random.choices("abzAZ09-+._/", k=self.random.choice((1, 2, 5, 9))))
        return '"' + "".join(self.random.choices(["a", " ", "#", "[", "]", ",", ":", '\\"', "\\\\", "\\n"], k=4)) + '"'

    def note(self):
        return "#" + "".join(self.random.choices('a #[]{},:"\\', k=self.random.randrange(9))).rstrip(" ")

    def is_noted(self):
        return self.notes and self.random.random() < 0.15

    def value(self, depth):
        if depth == 0 or self.random.random() < 0.4:
            return self.plain()
        bracket = self.random.choice("[{")
        return bracket, self.members(bracket, depth - 1, self.random.choice((0, 1, 2, 3, 5)))

    def key(self, turn):
        told = self.plain()
        if told.startswith('"'):
            return '"' + str(turn) + "." + told[1:]
        return str(turn) + "." + told

    def members(self, bracket, depth, count):
        made = []
        for turn in range(count):
            while self.is_noted():
                made.append(self.note())
            key = self.key(turn) if bracket == "{" else None
            made.append([key, self.value(depth), self.note() if self.is_noted() else None])
        while self.is_noted():
            made.append(self.note())
        return made

    def space(self):
        return "".join(self.random.choices(" \n", k=self.random.choice((0, 0, 1, 3))))

    def blanks(self):
        return " " * self.random.choice((0, 0, 1, 3))

    def write(self, members, last_comma):
        """Write members with commas between them, and maybe one behind the last."""
        told = ""
        last = max([k for k, member in enumerate(members) if isinstance(member, list)], default=-1)
        for k, member in enumerate(members):
            if isinstance(member, str):
                told += self.space() + ("\n" if told else "") + self.blanks() + member + self.blanks() + "\n"
                continue
            told += self.space() + self.write_member(member)
            if k < last or (last_comma and self.random.random() < 0.3):
                told += self.space() + ","
            if member[2] is not None:
                told += self.blanks() + member[2] + self.blanks() + "\n"
        return told + self.space()

    def write_member(self, member):
        told = ""
        if member[0] is not None:
            told = member[0] + self.space() + ":" + self.space()
        if isinstance(member[1], str):
            return told + member[1]
        bracket, members = member[1]
        return told + bracket + self.write(members, True) + CLOSING[bracket]


def flat(value):
    if isinstance(value, str):
        return value
    bracket, members = value
    told = [flat_member(member) for member in members if isinstance(member, list)]
    return bracket + ", ".join(told) + CLOSING[bracket]


def flat_member(member):
    return (member[0] + ": " if member[0] is not None else "") + flat(member[1])


def has_note(value):
    if isinstance(value, str):
        return False
    return any(isinstance(member, str) or member[2] is not None or has_note(member[1]) for member in value[1])


def told_lines(width, members, indent):
    """The lines of members, as the document tells them."""
    lines = []
    values = [member for member in members if isinstance(member, list)]
    for member in members:
        if isinstance(member, str):
            lines.append(" " * indent + member)
            continue
        comma = "," if member is not values[-1] else ""
        lines += told_member(width, member, comma, indent)
        if member[2] is not None:
            lines[-1] += " " + member[2]
    return lines


def told_member(width, member, comma, indent):
    line = " " * indent + flat_member(member) + comma
    value = member[1]
    is_empty = isinstance(value, str) or not value[1]
    if not has_note(value) and (is_empty or len(line) <= width):
        return [line]
    key = member[0] + ": " if member[0] is not None else ""
    inner = told_lines(width, value[1], indent + 2)
    return [" " * indent + key + value[0]] + inner + [" " * indent + CLOSING[value[0]] + comma]


def in_short(value, ordered):
    """A value in short, or its core, as the document tells it."""
    if isinstance(value, str):
        return value
    bracket, members = value
    told = [member for member in members if isinstance(member, list)]
    if ordered and bracket == "{":
        told.sort(key=lambda member: member[0].encode("ascii"))
    told = [(key + ":" if key is not None else "") + in_short(inner, ordered) for key, inner, note in told]
    return bracket + ",".join(told) + CLOSING[bracket]


def all_notes(members):
    """The notes of members, in their order."""
    told = []
    for member in members:
        if isinstance(member, str):
            told.append(member)
            continue
        if not isinstance(member[1], str):
            told += all_notes(member[1][1])
        if member[2] is not None:
            told.append(member[2])
    return told


def value_in(members):
    return [member for member in members if isinstance(member, list)][0][1]


def mixed(value, chance):
    """The same value, the entries of its maps in any order and no note anywhere."""
    if isinstance(value, str):
        return value
    bracket, members = value
    told = [[key, mixed(inner, chance), None] for key, inner, note in
            [member for member in members if isinstance(member, list)]]
    if bracket == "{":
        chance.shuffle(told)
    return bracket, told


def made_texts(notes):
    for seed in range(400):
        maker = Maker(seed, notes)
        members = maker.members("[", 5, 1)
        yield members, maker.write(members, False)


class Generated(unittest.TestCase):
    def test_lines(self):
        for notes in (False, True):
            for members, text in made_texts(notes):
                self.assertIsNone(place_of(text), text)
                for width in WIDTHS:
                    self.assertEqual(lines_in(width, text), told_lines(width, members, 0), text)

    def test_set_again_it_is_left_as_it_is(self):
        for members, text in made_texts(True):
            for width in WIDTHS:
                lines = lines_in(width, text)
                self.assertEqual(lines_in(width, "\n".join(lines) + "\n"), lines)
                # What it says is the same too: any other width sets both alike.
                self.assertEqual(lines_in(60, "\n".join(lines)), lines_in(60, text))

    def test_long_lines_hold_one_thing_alone(self):
        for notes in (False, True):
            for members, text in made_texts(notes):
                for width in WIDTHS:
                    for line in lines_in(width, text):
                        told = BEFORE_NOTE.match(line).group().rstrip(" ")
                        self.assertTrue(len(told) <= width or ONE_THING.fullmatch(told), line)

    def test_short(self):
        for notes in (False, True):
            for members, text in made_texts(notes):
                told = short_of(text)
                self.assertEqual(told, in_short(value_in(members), False), text)
                self.assertLessEqual(len(told), len(text))
                self.assertEqual(short_of(told), told)
                self.assertEqual(core_of(told), core_of(text))

    def test_core(self):
        for notes in (False, True):
            for members, text in made_texts(notes):
                told = core_of(text)
                self.assertEqual(told, in_short(value_in(members), True), text)
                self.assertEqual(len(told), len(short_of(text)))
                self.assertEqual(core_of(told), told)
                self.assertEqual(short_of(told), told)

    def test_the_order_of_entries_changes_no_core(self):
        for seed, (members, text) in enumerate(made_texts(True)):
            value = mixed(value_in(members), random.Random(seed))
            other = Maker(seed, False).write([[None, value, None]], False)
            self.assertEqual(short_of(other), in_short(value, False))
            self.assertEqual(core_of(other), core_of(text))

    def test_the_order_of_entries_makes_no_text_another(self):
        last = None
        for seed, (members, text) in enumerate(made_texts(True)):
            value = mixed(value_in(members), random.Random(seed))
            other = Maker(seed, False).write([[None, value, None]], False)
            self.assertEqual(same_of(text, other), [1])
            self.assertEqual(same_of(other, text), [1])
            if last is not None:
                is_same = in_short(value, True) == in_short(last, True)
                self.assertEqual(same_of(text, in_short(last, False)), [1 if is_same else 0])
            last = value

    def test_measure(self):
        for notes in (False, True):
            for members, text in made_texts(notes):
                for width in WIDTHS:
                    lines = told_lines(width, members, 0)
                    self.assertEqual(measured(width, text), [len(lines), max(map(len, lines))], text)

    def test_notes(self):
        count = 0
        for members, text in made_texts(True):
            told = all_notes(members)
            count += len(told)
            self.assertEqual(notes_in(text), told, text)
            self.assertEqual(notes_in(short_of(text)), [])
        self.assertGreater(count, 1000)
        for members, text in made_texts(False):
            self.assertEqual(notes_in(text), [], text)

    def test_lines_say_the_same(self):
        for members, text in made_texts(True):
            for width in WIDTHS:
                told = "\n".join(lines_in(width, text)) + "\n"
                self.assertEqual(short_of(told), short_of(text))
                self.assertEqual(core_of(told), core_of(text))
                self.assertEqual(same_of(told, text), [1])
                self.assertEqual(notes_in(told), all_notes(members))

    def test_what_is_cut_off_ends_too_soon_or_can_be_read(self):
        for members, text in list(made_texts(True))[:60]:
            for end in range(len(text)):
                self.assertIn(place_of(text[:end]), (None, end), text[:end])


if __name__ == "__main__":
    unittest.main()
