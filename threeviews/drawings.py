"""The calls of the document, each by itself."""

from threeviews.texts import MOST_BYTES, Drawing, DrawingFault, PartFault
from threeviews.texts import read_drawing, read_part, write_drawing, write_slice

TOO_LONG = -2
OFF_BLOCK = -4
AT_FAULT = -6

# Stands, of has, behind the line of a drawing's fault, where a part's has its why.
OF_THE_DRAWING = 99


def cells_of(part):
    """What a part has: at [z][y] a number whose bit x is 1 if it has (x, y, z)."""
    full = (1 << part.w) - 1
    cells = [[full] * part.d for z in range(part.h)]
    for x, y, z, w, d, h in part.cuts:
        kept = full - (((1 << w) - 1) << x)
        for above in range(z, z + h):
            for back in range(y, y + d):
                cells[above][back] = cells[above][back] & kept
    return cells


def joined(numbers):
    """The number that has every bit that one of the numbers has."""
    bits = 0
    for number in numbers:
        bits = bits | number
    return bits


def sign_for(dark):
    """The sign of a dark or a light place."""
    if dark:
        return "#"
    return "."


def row_of(bits, long):
    """A row of as many signs as long tells, dark where the number has a bit."""
    return "".join([sign_for((bits >> at) & 1 == 1) for at in range(long)])


def views_of(cells, w):
    """The drawing of cells in the form of cells_of, with rows of w."""
    front = []
    right = []
    for layer in cells:
        front.append(row_of(joined(layer), w))
        right.append("".join([sign_for(bits != 0) for bits in layer]))
    top = []
    for y in range(len(cells[0])):
        top.append(row_of(joined([layer[y] for layer in cells]), w))
    return Drawing(front, right, top)


def bits_of(row):
    """The number that has a bit where a row is dark."""
    bits = 0
    for at, sign in enumerate(row):
        if sign == "#":
            bits = bits | (1 << at)
    return bits


def most_of(drawing):
    """What the most of a drawing has, in the form of cells_of."""
    top = [bits_of(row) for row in drawing.top]
    cells = []
    for front, right in zip(drawing.front, drawing.right):
        dark = bits_of(front)
        cells.append([dark & bits if sign == "#" else 0 for sign, bits in zip(right, top)])
    return cells


def alone_among(numbers):
    """The number that has every bit that just one of the numbers has."""
    once = 0
    more = 0
    for number in numbers:
        more = more | (once & number)
        once = once | number
    return once & ~more


def sure_in(bits, alone):
    """The sure cells of a row, where alone tells what is alone from the front or from above."""
    # From the right the whole row is one line.
    if bits & (bits - 1) == 0:
        return bits
    return bits & alone


def sure_of(cells):
    """Which of the most's cells are sure, in the form of cells_of."""
    above = []
    for y in range(len(cells[0])):
        above.append(alone_among([layer[y] for layer in cells]))
    sure = []
    for layer in cells:
        front = alone_among(layer)
        sure.append([sure_in(bits, front | alone) for bits, alone in zip(layer, above)])
    return sure


def how_many(cells, w):
    """How many cells there are, in rows of w."""
    many = 0
    for layer in cells:
        for bits in layer:
            many += row_of(bits, w).count("#")
    return many


def is_among(cells, x, y, z):
    """Whether (x, y, z) is one of the cells; off their block nothing is."""
    if z >= len(cells) or y >= len(cells[0]):
        return False
    # A row has no bit beyond the block, so x needs no bound.
    return (cells[z][y] >> x) & 1 == 1


def first_apart(one, other):
    """The first place, row by row from row 0 up, at which two views of one size differ, or None."""
    for at in range(len(one)):
        for along in range(len(one[at])):
            if one[at][along] != other[at][along]:
                return [along, at]
    return None


def sizes_of(drawing):
    """The sizes w, d, h of a drawing."""
    return [len(drawing.front[0]), len(drawing.top), len(drawing.front)]


def first_difference(one, other):
    """The first difference of two drawings, in the three numbers of has, or None."""
    if sizes_of(one) != sizes_of(other):
        return [0, 0, 0]
    views = [(one.front, other.front), (one.right, other.right), (one.top, other.top)]
    for at, pair in enumerate(views):
        place = first_apart(pair[0], pair[1])
        if place is not None:
            return [at + 1] + place
    return None


def refusal_of_part(part):
    """The refusal of a part's text, or None if there's none."""
    if len(part) > MOST_BYTES:
        return [TOO_LONG]
    try:
        read_part(part)
    except PartFault as fault:
        return [AT_FAULT, fault.line, fault.why]
    return None


def refusal_of_drawing(drawing):
    """The refusal of a drawing's text, or None if there's none."""
    if len(drawing) > MOST_BYTES:
        return [TOO_LONG]
    try:
        read_drawing(drawing)
    except DrawingFault as fault:
        return [AT_FAULT, fault.line]
    return None


def refusal_of_both(part, drawing):
    """The refusal of a part's text and a drawing's together, or None if there's none."""
    of_part = refusal_of_part(part)
    of_drawing = refusal_of_drawing(drawing)
    if [TOO_LONG] in (of_part, of_drawing):
        return [TOO_LONG]
    if of_part is not None:
        return of_part
    if of_drawing is not None:
        return of_drawing + [OF_THE_DRAWING]
    return None


def drawing_of(part):
    """The own drawing of a part that a text tells."""
    block = read_part(part)
    return views_of(cells_of(block), block.w)


def of(part):
    """The drawing of a part's text: how many bytes it has, then they."""
    refusal = refusal_of_part(part)
    if refusal is not None:
        return refusal
    text = write_drawing(drawing_of(part))
    return [len(text)] + text


def judge(drawing):
    """Whether a drawing's text is at fault: 0, or a refusal."""
    refusal = refusal_of_drawing(drawing)
    if refusal is not None:
        return refusal
    return [0]


def sizes(drawing):
    """Of a drawing's text its sizes, how many cells the most has and how many are sure, and if it's of something."""
    refusal = refusal_of_drawing(drawing)
    if refusal is not None:
        return refusal
    views = read_drawing(drawing)
    w = len(views.front[0])
    most = most_of(views)
    something = 1 if first_difference(views_of(most, w), views) is None else 0
    return [0] + sizes_of(views) + [how_many(most, w), how_many(sure_of(most), w), something]


def cell(x, y, z, drawing):
    """What (x, y, z) is by a drawing's text: 0 not the most's, 1 the most's, 2 sure."""
    refusal = refusal_of_drawing(drawing)
    if refusal is not None:
        return refusal
    most = most_of(read_drawing(drawing))
    if is_among(sure_of(most), x, y, z):
        return [2]
    if is_among(most, x, y, z):
        return [1]
    return [0]


def slice_of(z, drawing):
    """The most's slice z of a drawing's text: how many bytes it has, then they."""
    refusal = refusal_of_drawing(drawing)
    if refusal is not None:
        return refusal
    views = read_drawing(drawing)
    if z >= len(views.front):
        return [OFF_BLOCK]
    w = len(views.front[0])
    text = write_slice([row_of(bits, w) for bits in most_of(views)[z]])
    return [len(text)] + text


def has(part, drawing):
    """Whether a part has a drawing, by their texts: 1, or 0 and the first difference."""
    refusal = refusal_of_both(part, drawing)
    if refusal is not None:
        return refusal
    difference = first_difference(drawing_of(part), read_drawing(drawing))
    if difference is None:
        return [1]
    return [0] + difference
