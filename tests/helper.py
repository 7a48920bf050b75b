"""What the tests share: texts are written as Python's str here."""

from setlines.texts import check, format_of


def bytes_of(text):
    return list(text.encode("latin-1"))


def place_of(text):
    """The place that check tells of a text, or None if it can be read."""
    answer = check(bytes_of(text))
    assert len(answer) == 1, answer
    if answer == [0]:
        return None
    assert answer[0] <= -100, answer
    return -100 - answer[0]


def lines_in(width, text):
    """The lines that format_of sets a text in, without their ends."""
    answer = format_of(width, bytes_of(text))
    assert answer[0] == len(answer) - 1, answer
    told = bytes(answer[1:]).decode("latin-1")
    assert told.endswith("\n"), told
    return told[:-1].split("\n")
