"""The calls of the document, each by itself."""

from threeviews.texts import MOST_BYTES, Drawing, DrawingFault, PartFault
from threeviews.texts import read_drawing, read_part, write_drawing

TOO_LONG = -2
AT_FAULT = -6


def cells_of(part):
    """What a part has: at [z][y] a number whose bit x is 1 if it has (x, y, z)."""
    full = (1 << part.w) - 1
    cells = [[full] * part.d for z in range(part.h)]
    for x, y, z, w, d, h in part.cuts:
        kept = full - (((1 << w) - 1) << x)
        for above in range(z, z + h):
            for back in range(y, y + d):
                cells[above][back] = cells[above][back] & kept
    return cells


def joined(numbers):
    """The number that has every bit that one of the numbers has."""
    bits = 0
    for number in numbers:
        bits = bits | number
    return bits


def sign_for(dark):
    """The sign of a dark or a light place."""
    if dark:
        return "#"
    return "."


def row_of(bits, long):
    """A row of as many signs as long tells, dark where the number has a bit."""
    return "".join([sign_for((bits >> at) & 1 == 1) for at in range(long)])


def drawing_of(part):
    """The drawing that a part has."""
    cells = cells_of(part)
    front = []
    right = []
    for layer in cells:
        front.append(row_of(joined(layer), part.w))
        right.append("".join([sign_for(bits != 0) for bits in layer]))
    top = []
    for y in range(part.d):
        top.append(row_of(joined([layer[y] for layer in cells]), part.w))
    return Drawing(front, right, top)


def of(part):
    """The drawing of a part's text: how many bytes it has, then they."""
    if len(part) > MOST_BYTES:
        return [TOO_LONG]
    try:
        block = read_part(part)
    except PartFault as fault:
        return [AT_FAULT, fault.line, fault.why]
    text = write_drawing(drawing_of(block))
    return [len(text)] + text


def judge(drawing):
    """Whether a drawing's text is at fault: 0, or a refusal."""
    if len(drawing) > MOST_BYTES:
        return [TOO_LONG]
    try:
        read_drawing(drawing)
    except DrawingFault as fault:
        return [AT_FAULT, fault.line]
    return [0]
