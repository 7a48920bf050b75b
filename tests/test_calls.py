"""The calls: widths, and what's said of handing in and giving back."""

import contextlib
import copy
import inspect
import io
import sys
import unittest

import setlines.texts
from helper import bytes_of
from setlines.texts import check, core, format_of, measure, notes, same, short


class Watched(list):
    """A list that refuses each change of itself."""

    def refuse(self, *args, **kwargs):
        raise AssertionError("what was handed in is changed")

    append = clear = extend = insert = pop = remove = reverse = sort = refuse
    __delitem__ = __iadd__ = __imul__ = __setitem__ = refuse


TEXTS = ("", "a", "[a b]", "{k:[a, #c\nb], l:{}} #d\n#e", "[" * 41, "[" * 40 + "]" * 40, "[" + "ab," * 50 + "]",
         '{"z": {b: [c, {y: 1, x: 2,},], "a": d}, #e\nw: v}', "{b: 1, a: 2, b: 3}")
# What other texts are held against.
OTHER = Watched(bytes_of("{l: {}, k: [a, b]}"))
# All that can be asked of one text.
CALLS = (check, short, core, notes, lambda text: format_of(20, text), lambda text: format_of(200, text),
         lambda text: format_of(19, text), lambda text: measure(20, text), lambda text: measure(200, text),
         lambda text: measure(201, text), lambda text: same(text, text), lambda text: same(text, OTHER),
         lambda text: same(OTHER, text))


class Names(unittest.TestCase):
    def test_what_is_handed_in_is_called_as_told(self):
        for call, names in ((check, ["text"]), (format_of, ["width", "text"]), (short, ["text"]), (core, ["text"]),
                            (same, ["a", "b"]), (measure, ["width", "text"]), (notes, ["text"])):
            self.assertEqual(list(inspect.signature(call).parameters), names)
            self.assertEqual(call.__module__, "setlines.texts")

    def test_each_handed_in_by_its_name(self):
        given = bytes_of("[a] #c")
        self.assertEqual(check(text=given), [0])
        self.assertEqual(format_of(width=20, text=given), [7] + given + [10])
        self.assertEqual(short(text=given), [3] + given[:3])
        self.assertEqual(core(text=given), [3] + given[:3])
        self.assertEqual(same(b=given, a=[91]), [-101])
        self.assertEqual(measure(text=given, width=20), [1, 6])
        self.assertEqual(notes(text=given), [3] + given[4:] + [10])


class Widths(unittest.TestCase):
    def test_from_20_to_200(self):
        for width in (20, 21, 199, 200):
            self.assertEqual(format_of(width, bytes_of("a")), [2, 97, 10])
            self.assertEqual(measure(width, bytes_of("a")), [1, 1])

    def test_others(self):
        for width in (19, 201, 0, 1, -1, -20, -200, 2147483647, -2147483648):
            self.assertEqual(format_of(width, bytes_of("a")), [-2])
            self.assertEqual(measure(width, bytes_of("a")), [-2])

    def test_told_before_any_fault_of_the_text(self):
        for width in (19, 201, 0, -1, -20, -2147483648, 2147483647):
            for text in TEXTS:
                self.assertEqual(format_of(width, bytes_of(text)), [-2])
                self.assertEqual(measure(width, bytes_of(text)), [-2])


class Values(unittest.TestCase):
    def test_what_is_handed_in_is_not_changed(self):
        for text in TEXTS:
            for call in CALLS:
                given = bytes_of(text)
                call(given)
                self.assertEqual(given, bytes_of(text))

    def test_not_for_a_while_either(self):
        for text in TEXTS:
            for call in CALLS:
                self.assertEqual(call(Watched(bytes_of(text))), call(bytes_of(text)))

    def test_a_second_call_answers_the_same(self):
        for text in TEXTS:
            first = [call(bytes_of(text)) for call in CALLS]
            for other in ("[{a:b", "{a:[#c\n]}", "{k: 1, z: 2, b: 3}"):
                for call in CALLS:
                    call(bytes_of(other))
            self.assertEqual([call(bytes_of(text)) for call in CALLS], first)

    def test_an_answer_that_is_changed_changes_no_later_one(self):
        for text in ("{a: [b, c]}", "a", "[]", '"s"'):
            for call in CALLS:
                given = bytes_of(text)
                answer = call(given)
                kept = list(answer)
                answer.reverse()
                answer.append(0)
                self.assertEqual(call(given), kept)
                self.assertEqual(given, bytes_of(text))

    def test_nothing_is_printed_or_read(self):
        for text in TEXTS:
            printed = io.StringIO()
            read = io.StringIO("a\nb\n")
            kept = sys.stdin
            sys.stdin = read
            try:
                with contextlib.redirect_stdout(printed), contextlib.redirect_stderr(printed):
                    for call in CALLS:
                        call(bytes_of(text))
            finally:
                sys.stdin = kept
            self.assertEqual(printed.getvalue(), "")
            self.assertEqual(read.tell(), 0)

    def test_nothing_is_kept(self):
        names = {name: value for name, value in vars(setlines.texts).items() if not name.startswith("__")}
        plain = {name: copy.deepcopy(value) for name, value in names.items() if not callable(value)}
        for text in TEXTS:
            for call in CALLS:
                call(bytes_of(text))
        self.assertEqual(names, {name: vars(setlines.texts)[name] for name in names})
        self.assertEqual(plain, {name: names[name] for name in plain})
        for value in names.values():
            if inspect.isfunction(value):
                self.assertEqual(vars(value), {})
                self.assertIsNone(value.__defaults__)

    def test_answers_are_lists_of_whole_numbers(self):
        for text in TEXTS:
            for answer in [call(bytes_of(text)) for call in CALLS]:
                self.assertIs(type(answer), list)
                self.assertEqual({type(number) for number in answer}, {int})
                self.assertTrue(answer[0] >= 0 or len(answer) == 1)


if __name__ == "__main__":
    unittest.main()
