"""What the tests share: texts are written as Python's str here."""

from setlines.texts import check, core, format_of, short


def bytes_of(text):
    return list(text.encode("latin-1"))


def place_of(text):
    """The place that check tells of a text, or None if it can be read."""
    answer = check(bytes_of(text))
    assert len(answer) == 1, answer
    if answer == [0]:
        return None
    assert answer[0] <= -100, answer
    return -100 - answer[0]


def told_in(answer):
    """The text that an answer tells: how many bytes, then they."""
    assert answer[0] == len(answer) - 1, answer
    return bytes(answer[1:]).decode("latin-1")


def lines_in(width, text):
    """The lines that format_of sets a text in, without their ends."""
    told = told_in(format_of(width, bytes_of(text)))
    assert told.endswith("\n"), told
    return told[:-1].split("\n")


def short_of(text):
    return told_in(short(bytes_of(text)))


def core_of(text):
    return told_in(core(bytes_of(text)))
