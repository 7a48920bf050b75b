"""The calls: widths, and what's said of handing in and giving back."""

import unittest

from helper import bytes_of
from setlines.texts import check, format_of

TEXTS = ("", "a", "[a b]", "{k:[a, #c\nb], l:{}} #d\n#e", "[" * 41, "[" * 40 + "]" * 40, "[" + "ab," * 50 + "]")


class Widths(unittest.TestCase):
    def test_from_20_to_200(self):
        for width in (20, 21, 199, 200):
            self.assertEqual(format_of(width, bytes_of("a")), [2, 97, 10])

    def test_others(self):
        for width in (19, 201, 0, 1, -1, -20, -200, 2147483647, -2147483648):
            self.assertEqual(format_of(width, bytes_of("a")), [-2])

    def test_told_before_any_fault_of_the_text(self):
        for width in (19, 201, -20, -2147483648):
            for text in TEXTS:
                self.assertEqual(format_of(width, bytes_of(text)), [-2])


class Values(unittest.TestCase):
    def test_what_is_handed_in_is_not_changed(self):
        for text in TEXTS:
            given = bytes_of(text)
            check(given)
            format_of(20, given)
            format_of(19, given)
            self.assertEqual(given, bytes_of(text))

    def test_a_second_call_answers_the_same(self):
        for text in TEXTS:
            first = check(bytes_of(text)), format_of(20, bytes_of(text)), format_of(200, bytes_of(text))
            check(bytes_of("[{a:b"))
            format_of(30, bytes_of("{a:[#c\n]}"))
            second = check(bytes_of(text)), format_of(20, bytes_of(text)), format_of(200, bytes_of(text))
            self.assertEqual(first, second)

    def test_an_answer_that_is_changed_changes_no_later_one(self):
        given = bytes_of("{a: [b, c]}")
        answer = format_of(20, given)
        kept = list(answer)
        answer.clear()
        self.assertEqual(format_of(20, given), kept)
        self.assertEqual(given, bytes_of("{a: [b, c]}"))

    def test_answers_are_lists_of_whole_numbers(self):
        for text in TEXTS:
            for answer in (check(bytes_of(text)), format_of(20, bytes_of(text)), format_of(19, bytes_of(text))):
                self.assertIs(type(answer), list)
                self.assertEqual({type(number) for number in answer}, {int})
                self.assertTrue(answer[0] >= 0 or len(answer) == 1)


if __name__ == "__main__":
    unittest.main()
