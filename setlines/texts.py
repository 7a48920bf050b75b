"""Texts of rows and maps: read to the last byte, set in lines, told in short.

A text is a list of bytes. Reader turns it into pieces, in the order of the
text; Setter turns pieces into lines, told_short into as few bytes as can be.
All go by loops, however deep it gets.
"""

LINE_END = 10
BLANK = 32
QUOTE = 34
HASH_SIGN = 35
COMMA = 44
COLON = 58
BACKSLASH = 92
ROW_END = 93
MAP_END = 125
CLOSERS = {91: 93, 123: 125}  # Each opening bracket with the one that closes it.
ESCAPED = (34, 92, 110)  # What may stand behind a backslash: a quote, a backslash, n.
NO_BYTE = 256  # More than any byte is: stands where the text has ended.

MOST_BYTES = 65536
MOST_DEEP = 40
LEAST_WIDTH = 20
MOST_WIDTH = 200

# The kinds of a piece.
PLAIN = "plain"
OPENING = "opening"
CLOSING = "closing"
COMMENT = "comment"

# What a row, map or text takes next: READY a value or entry; FILLED a comma;
# CLOSED neither, as a comment stands behind its last one without a comma.
READY = "ready"
FILLED = "filled"
CLOSED = "closed"


class Wrong(Exception):
    """A text can't be read; place is that of the first byte that's wrong."""

    def __init__(self, place):
        # A text of more bytes than that is wrong there at the latest.
        self.place = min(place, MOST_BYTES)


class Piece:
    """A word or string, a bracket, or a comment; own is the bytes it's told by.

    An opening bracket stands for its whole row or map: it bears the key, the
    comma and the length.
    """

    def __init__(self, kind, key, own):
        self.kind = kind
        self.key = key
        self.own = own
        self.length = len(key_told(key)) + len(own)  # How many bytes it is told flat by, with its key.
        self.comma = False  # Another value or entry of the same row or map comes after it.
        self.filled = False  # Of a row or map: it's not empty.
        self.noted = False  # Of a row or map: a comment stands anywhere in it.
        self.behind = False  # Of a comment: it stands behind a value or entry.


class Level:
    """What is known of a row, a map or the text while it is read."""

    def __init__(self, piece, closer):
        self.piece = piece
        self.closer = closer
        self.state = READY
        self.seen = {}
        self.last = None

    def add(self, member):
        """Take in a value or entry that has been read to its end."""
        whole = self.piece
        last = self.last
        if last is not None:
            last.comma = True
            whole.length += 2
        whole.length += member.length
        whole.filled = True
        whole.noted = whole.noted or member.noted
        self.last = member
        self.state = FILLED


class Reader:
    """Reads a text once, from its first byte to its last."""

    def __init__(self, text):
        self.text = text + [NO_BYTE]
        self.place = 0
        self.pieces = []
        self.levels = [Level(Piece(OPENING, [], []), NO_BYTE)]

    def read(self):
        """Give back the text's pieces, or raise Wrong."""
        line_ended = self.skip_space()
        while self.text[self.place] != NO_BYTE:
            self.read_next(line_ended)
            line_ended = self.skip_space()
        # The text takes in its value only when that is closed.
        if self.levels[0].state == READY or self.place > MOST_BYTES:
            raise Wrong(self.place)
        return self.pieces

    def skip_space(self):
        """Go to the next byte that's no blank; tell if a line ended before it."""
        begin = self.place
        while self.text[self.place] in (BLANK, LINE_END):
            self.place += 1
        return LINE_END in self.text[begin:self.place]

    def read_next(self, line_ended):
        byte = self.text[self.place]
        if byte == HASH_SIGN:
            self.read_comment(line_ended)
        elif byte == COMMA:
            self.read_comma()
        elif byte in (ROW_END, MAP_END):
            self.read_closing(byte)
        else:
            self.read_member()

    def read_comment(self, line_ended):
        level = self.levels[-1]
        begin = self.place
        while is_printed(self.text[self.place]):
            self.place += 1
        if self.text[self.place] not in (LINE_END, NO_BYTE):
            raise Wrong(self.place)
        end = self.place
        while self.text[end - 1] == BLANK:
            end -= 1
        piece = Piece(COMMENT, [], self.text[begin:end])
        # A line has always ended behind a comment, so what is last here is a
        # value or entry, or its comma.
        piece.behind = level.last is not None and not line_ended
        whole = level.piece
        whole.noted = True
        if level.state == FILLED:
            level.state = CLOSED
        self.pieces.append(piece)

    def read_comma(self):
        level = self.levels[-1]
        if len(self.levels) == 1 or level.state != FILLED:
            raise Wrong(self.place)
        level.state = READY
        self.place += 1

    def read_closing(self, byte):
        level = self.levels[-1]
        if byte != level.closer:
            raise Wrong(self.place)
        self.levels.pop()
        self.levels[-1].add(level.piece)
        self.pieces.append(Piece(CLOSING, [], [byte]))
        self.place += 1

    def read_member(self):
        level = self.levels[-1]
        if level.state != READY:
            raise Wrong(self.place)
        key = self.read_key(level.seen) if level.closer == MAP_END else []
        byte = self.text[self.place]
        if byte in CLOSERS:
            self.read_opening(key, byte)
        else:
            piece = Piece(PLAIN, key, self.read_plain())
            level.add(piece)
            self.pieces.append(piece)

    def read_key(self, seen):
        """Read a key and its colon, up to where the value has to begin."""
        begin = self.place
        key = self.read_plain()
        if tuple(key) in seen:
            raise Wrong(begin)
        seen[tuple(key)] = True
        self.skip_space()
        if self.text[self.place] != COLON:
            raise Wrong(self.place)
        self.place += 1
        self.skip_space()
        return key

    def read_opening(self, key, byte):
        if len(self.levels) > MOST_DEEP:
            raise Wrong(self.place)
        piece = Piece(OPENING, key, [byte])
        piece.length += 1  # For the bracket that closes it.
        self.levels.append(Level(piece, CLOSERS[byte]))
        self.pieces.append(piece)
        self.place += 1

    def read_plain(self):
        """Read the word or string that has to be here."""
        begin = self.place
        is_string = self.text[begin] == QUOTE
        self.place = string_end(self.text, begin) if is_string else word_end(self.text, begin)
        if self.place == begin:
            raise Wrong(begin)
        return self.text[begin:self.place]


class Setter:
    """Sets pieces in lines of a width, one piece after the other."""

    def __init__(self, width):
        self.width = width
        # Each line with the end of the one before it, the first one too.
        self.told = []
        # The rows and maps that are not closed yet. The first of them are told
        # broken, as many as the number says; those within a flat one are flat.
        self.opened = []
        self.broken = 0

    def set_lines(self, pieces):
        """Give back the lines of a text's pieces."""
        for piece in pieces:
            self.tell(piece)
        return self.told[1:] + [LINE_END]

    def is_flat_here(self):
        return len(self.opened) > self.broken

    def tell(self, piece):
        if piece.behind:
            self.told.extend([BLANK] + piece.own)
        elif piece.kind == CLOSING:
            self.tell_closing(piece)
        else:
            self.put(key_told(piece.key) + piece.own)
            if piece.kind == OPENING:
                self.go_into(piece)
            else:
                self.put_comma(piece)

    def go_into(self, piece):
        """Settle if a row or map, whose bracket has been told, is broken."""
        length = 2 * self.broken + piece.length + (1 if piece.comma else 0)
        must_break = piece.noted or (piece.filled and length > self.width)
        if must_break and not self.is_flat_here():
            self.broken += 1
        self.opened.append(piece)

    def tell_closing(self, piece):
        whole = self.opened.pop()
        if len(self.opened) < self.broken:
            self.broken -= 1
            self.put(piece.own)
        else:
            self.told.extend(piece.own)
        self.put_comma(whole)

    def put(self, told):
        """Go on in the line of a flat row or map, else begin a line."""
        if not self.is_flat_here():
            self.told.extend([LINE_END] + [BLANK] * (2 * self.broken))
        self.told.extend(told)

    def put_comma(self, piece):
        if piece.comma:
            self.told.extend([COMMA, BLANK] if self.is_flat_here() else [COMMA])


def is_word_byte(byte):
    is_letter = 97 <= byte <= 122 or 65 <= byte <= 90
    # 45 to 57 are - . / and the digits, 43 is +, 95 is _.
    return is_letter or 45 <= byte <= 57 or byte in (43, 95)


def is_printed(byte):
    return 32 <= byte <= 126


def word_end(text, place):
    while is_word_byte(text[place]):
        place += 1
    return place


def string_end(text, place):
    """Give back the place behind the string whose first quote is at place."""
    place += 1
    while text[place] != QUOTE:
        if text[place] == BACKSLASH:
            place += 1
            if text[place] not in ESCAPED:
                raise Wrong(place)
        elif not is_printed(text[place]):
            raise Wrong(place)
        place += 1
    return place + 1


def key_told(key):
    """Give back what stands ahead of an entry's value; a value has no key."""
    return key + [COLON, BLANK] if key else []


def told_short(pieces, ordered):
    """Give back what the pieces say; if ordered, each map by its keys' order."""
    # The members of the text, then those of each row or map that isn't closed
    # yet: the key of each, and the bytes it's told by so far.
    levels = [[]]
    for piece in pieces:
        if piece.kind == CLOSING:
            members = levels.pop()
            if ordered and piece.own == [MAP_END]:
                members = sorted(members, key=lambda member: member[0])
            begun = levels[-1].pop()
            levels[-1].append((begun[0], begun[1] + joined(members) + piece.own))
        elif piece.kind != COMMENT:
            ahead = piece.key + [COLON] if piece.key else []
            levels[-1].append((piece.key, ahead + piece.own))
        if piece.kind == OPENING:
            levels.append([])
    return joined(levels[0])


def joined(members):
    told = []
    for key, own in members:
        told.extend([COMMA] + own)
    return told[1:]


def told_notes(pieces):
    told = []
    for piece in pieces:
        if piece.kind == COMMENT:
            told.extend(piece.own + [LINE_END])
    return told


def answer(text, tell):
    """Answer how many bytes tell makes of the text's pieces, then they."""
    try:
        pieces = Reader(text).read()
    except Wrong as wrong:
        return [-100 - wrong.place]
    told = tell(pieces)
    return [len(told)] + told


def check(text):
    """Answer [0], or -100 less the place of the first byte that's wrong."""
    return answer(text, lambda pieces: [])


def format_of(width, text):
    """Answer how many bytes the text has when it's set in lines, then they."""
    if width < LEAST_WIDTH or width > MOST_WIDTH:
        return [-2]
    return answer(text, lambda pieces: Setter(width).set_lines(pieces))


def short(text):
    """Answer how many bytes the text has without all that it can do without, then they."""
    return answer(text, lambda pieces: told_short(pieces, False))


def core(text):
    """Answer as short does, the entries of each map in the order of their keys."""
    return answer(text, lambda pieces: told_short(pieces, True))


def same(a, b):
    """Answer [1] if both texts say the same, whatever the order of their entries, else [0]."""
    first = core(a)
    second = core(b)
    if first[0] < 0:
        return first
    if second[0] < 0:
        # What core tells by -100 less the place is -1000000 less it here.
        return [second[0] - 999900]
    return [1 if first == second else 0]


def measure(width, text):
    """Answer how many lines format_of sets the text in, then how many bytes the longest has."""
    told = format_of(width, text)
    if told[0] < 0:
        return told
    # How many bytes it tells stands ahead of them, where the end of a line before the first would be.
    ends = [0] + [place for place in range(1, len(told)) if told[place] == LINE_END]
    return [len(ends) - 1, max([end - begin - 1 for begin, end in zip(ends, ends[1:])])]


def notes(text):
    """Answer how many bytes all comments have, each with a line's end behind it, then they."""
    return answer(text, told_notes)
