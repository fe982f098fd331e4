"""The texts of parts and drawings: how they are read, written, and at fault."""

MOST_BYTES = 16384
MOST_SIZE = 16
MOST_NAME = 12
MOST_CUTS = 64

# The signs that stand in a formed text; every other byte is read as STRANGE.
SIGNS = "\n #.0123456789abcdefghijklmnopqrstuvwxyz"
STRANGE = "?"

# Why a part's line is wrong, by the numbers of the document.
NOT_FORMED = 1
TOO_MANY_CUTS = 2
OUT_OF_PLACE = 3
BEYOND_BLOCK = 4

# Stands for every number of three digits or more: all of them are beyond any block.
FAR = 100


class PartFault(Exception):
    """A part's text is at fault: in which line, and why."""

    def __init__(self, line, why):
        self.line = line
        self.why = why


class DrawingFault(Exception):
    """A drawing's text is at fault: in which line."""

    def __init__(self, line):
        self.line = line


class Part:
    """A block's sizes and its cuts, each cut a tuple x, y, z, w, d, h."""

    def __init__(self, w, d, h):
        self.w = w
        self.d = d
        self.h = h
        self.cuts = []


class Drawing:
    """Three views, each a list of rows of signs, from row 0 up."""

    def __init__(self, front, right, top):
        self.front = front
        self.right = right
        self.top = top


class DrawingLines:
    """The lines of a drawing's text, taken one behind the other.

    A wrong line and a missing one are told alike: the first missing line
    has the number that tells how many lines there are.
    """

    def __init__(self, lines):
        self.lines = lines
        self.at = 0

    def coming(self):
        """The line to be taken next, or None behind the last."""
        if self.at == len(self.lines):
            return None
        return self.lines[self.at]

    def take_word(self, word):
        """Takes the line that is this word."""
        if self.coming() != word:
            raise DrawingFault(self.at)
        self.at += 1

    def take_row(self, shortest, longest):
        """Takes a row whose length is within these bounds, and gives it back."""
        row = self.coming()
        if row is None or not is_row(row) or not shortest <= len(row) <= longest:
            raise DrawingFault(self.at)
        self.at += 1
        return row

    def take_end(self):
        """Takes nothing more: no line may be left."""
        if self.coming() is not None:
            raise DrawingFault(self.at)


def lines_of(data):
    """The lines of a text, without their line feeds."""
    signs = {}
    for sign in SIGNS:
        signs[ord(sign)] = sign
    lines = "".join([signs.get(number, STRANGE) for number in data]).split("\n")
    # What has no line feed behind it is wrong whatever it says, so it is
    # told as a line that is wrong in every place.
    if lines.pop() != "":
        lines.append(STRANGE)
    return lines


def is_name(word):
    """Whether a word is a name; the signs of lines_of are small letters, digits and others."""
    return 1 <= len(word) <= MOST_NAME and word.isalnum()


def is_number(word):
    """Whether a word is a number, of any length."""
    return word.isdigit() and (word == "0" or word[0] != "0")


def number_of(word):
    """The value of a number, or FAR; Python's int takes no very long one."""
    if len(word) > 2:
        return FAR
    return int(word)


def is_size(word):
    """Whether a word is a number within the bounds of a size."""
    return is_number(word) and 1 <= number_of(word) <= MOST_SIZE


def sizes_in(line):
    """The sizes in a part's line, or None if it isn't a formed one."""
    words = line.split(" ")
    if len(words) != 6 or words[0] != "part" or not is_name(words[1]):
        return None
    if words[5] not in ("x", "y", "z"):
        return None
    if not all([is_size(word) for word in words[2:5]]):
        return None
    return [number_of(word) for word in words[2:5]]


def cut_in(line):
    """The cut in a cut's line, or None if it isn't a formed one."""
    words = line.split(" ")
    if len(words) != 7 or words[0] != "cut":
        return None
    if not all([is_number(word) for word in words[1:4]]):
        return None
    if not all([is_size(word) for word in words[4:7]]):
        return None
    return tuple([number_of(word) for word in words[1:7]])


def goes_beyond(part, cut):
    """Whether a cut goes beyond the part's block."""
    return cut[0] + cut[3] > part.w or cut[1] + cut[4] > part.d or cut[2] + cut[5] > part.h


def read_block(line):
    """The part, yet without cuts, that the first line tells."""
    sizes = sizes_in(line)
    if sizes is not None:
        return Part(sizes[0], sizes[1], sizes[2])
    if cut_in(line) is not None:
        raise PartFault(0, OUT_OF_PLACE)
    raise PartFault(0, NOT_FORMED)


def read_cut(part, at, line):
    """The cut that line number at, behind the first, tells of the part."""
    cut = cut_in(line)
    if cut is None:
        if sizes_in(line) is not None:
            raise PartFault(at, OUT_OF_PLACE)
        raise PartFault(at, NOT_FORMED)
    # The document's order of reasons: beyond the block goes before too many.
    if goes_beyond(part, cut):
        raise PartFault(at, BEYOND_BLOCK)
    if len(part.cuts) == MOST_CUTS:
        raise PartFault(at, TOO_MANY_CUTS)
    return cut


def read_part(data):
    """The part that a text tells; PartFault if the text is at fault."""
    lines = lines_of(data)
    if len(lines) == 0:
        raise PartFault(0, OUT_OF_PLACE)
    part = read_block(lines[0])
    for at in range(1, len(lines)):
        part.cuts.append(read_cut(part, at, lines[at]))
    return part


def is_row(line):
    """Whether a line has the signs of a row alone."""
    return all([sign in "#." for sign in line])


def read_drawing(data):
    """The drawing that a text tells; DrawingFault if the text is at fault."""
    lines = DrawingLines(lines_of(data))
    lines.take_word("front")
    front = [lines.take_row(1, MOST_SIZE)]
    w = len(front[0])
    while len(front) < MOST_SIZE and lines.coming() != "right":
        front.append(lines.take_row(w, w))
    lines.take_word("right")
    right = [lines.take_row(1, MOST_SIZE)]
    d = len(right[0])
    while len(right) < len(front):
        right.append(lines.take_row(d, d))
    lines.take_word("top")
    top = []
    while len(top) < d:
        top.append(lines.take_row(w, w))
    lines.take_end()
    return Drawing(turned(front), turned(right), turned(top))


def turned(rows):
    """The rows the other way round: texts tell the highest row first."""
    return list(reversed(rows))


def data_of(lines):
    """The text of lines, as a list of bytes, with a line feed behind each."""
    text = "".join([line + "\n" for line in lines])
    return [ord(sign) for sign in text]


def write_drawing(drawing):
    """The text of a drawing, as a list of bytes."""
    lines = ["front"] + turned(drawing.front)
    lines = lines + ["right"] + turned(drawing.right)
    lines = lines + ["top"] + turned(drawing.top)
    return data_of(lines)


def write_slice(rows):
    """The text of a slice's rows, given from row 0 up, as a list of bytes."""
    return data_of(turned(rows))
