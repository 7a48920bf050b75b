"""What the tests share: texts are written as Python's str here."""

from setlines.texts import check, core, format_of, measure, notes, same, short

# Texts that can't be read, with the place where that's told: each kind of fault.
WRONG = (
    ("", 0), (" \n", 2), ("#c", 2), ("[a", 2), ("{a:b,", 5), ("{a", 2), ("{a:", 3), ('"a', 2), ('"a\\', 3),
    (",", 0), ("[a,,b]", 3), ("{:b}", 1), ("{a:}", 3), ("[\x00]", 1), ("{[]:b}", 1), ("]", 0), ("[}", 1), ("{a:b]", 4),
    ("[a b]", 3), ("{a:b c:d}", 5), ("{a b}", 3), ("[a:b]", 2),
    ('["a\n"]', 3), ('"\x80"', 1), ('{"\\x":a}', 3), ("#\t\na", 1),
    ("{a:1,a:2}", 5), ("{b:{c:1, d:2, c:3}}", 14), ('{"k":1,k:2, "k":3}', 12),
    ("[" * 41 + "]" * 41, 40), ("{a:" * 40 + "[]" + "}" * 40, 120),
    ("a b", 2), ("[] []", 3), ("a,", 1), ("{}}", 2), ("a #c\nb", 5), ("[a #c\n, b]", 6), ("{a: #c\nb}", 4),
    ("{a #c\n: b}", 3), ("{a:b #c\n, d:e}", 8), ("a #c\x1f", 4), ("[#c\x7f\n]", 3), ("{a:b, #\xff\n}", 7))


def bytes_of(text):
    return list(text.encode("latin-1"))


def place_of(text):
    """The place that check tells of a text, or None if it can be read."""
    answer = check(bytes_of(text))
    assert len(answer) == 1, answer
    if answer == [0]:
        return None
    assert answer[0] <= -100, answer
    return -100 - answer[0]


def told_in(answer):
    """The text that an answer tells: how many bytes, then they."""
    assert answer[0] == len(answer) - 1, answer
    return bytes(answer[1:]).decode("latin-1")


def lines_in(width, text):
    """The lines that format_of sets a text in, without their ends."""
    told = told_in(format_of(width, bytes_of(text)))
    assert told.endswith("\n"), told
    return told[:-1].split("\n")


def short_of(text):
    return told_in(short(bytes_of(text)))


def core_of(text):
    return told_in(core(bytes_of(text)))


def measured(width, text):
    return measure(width, bytes_of(text))


def notes_in(text):
    """The comments that notes tells, without the line's ends behind them."""
    told = told_in(notes(bytes_of(text)))
    assert told == "" or told.endswith("\n"), told
    return told.split("\n")[:-1]


def same_of(first, second):
    return same(bytes_of(first), bytes_of(second))
