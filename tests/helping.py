"""What the tests share."""

import itertools


def data(text):
    """The bytes of a text, as a list."""
    return list(text.encode("latin-1"))


def text_of(front, right, top):
    """A drawing's text of the views' rows, given in the order of the text, with blanks between."""
    rows = ["front"] + front.split() + ["right"] + right.split() + ["top"] + top.split()
    return "".join(row + "\n" for row in rows)


class Untouched(list):
    """A list that fails as soon as somebody changes it, were it for a while only."""

    def refuse(self, *args, **kwargs):
        raise AssertionError("what was handed in is changed")

    append = clear = extend = insert = pop = remove = reverse = sort = refuse
    __setitem__ = __delitem__ = __iadd__ = __imul__ = refuse


def refused_drawings():
    """Drawings' texts and their refusals, worked out from the document by hand.

    Of the good text the lines are: front 0, rows 1 to 4, right 5, rows 6 to 9, top 10, rows 11 and 12.
    """
    good = text_of("#.# #.# ### ###", "## #. ## ##", "### ##.")
    smallest = text_of("#", "#", "#")
    sixteen = "#\n" * 16
    return [
        ("", [-6, 0]),
        ("front\n", [-6, 1]),
        ("front\n#\n", [-6, 2]),
        ("front\n#\nright\n", [-6, 3]),
        ("front\n#\nright\n#\n", [-6, 4]),
        ("front\n#\nright\n#\ntop\n", [-6, 5]),
        (good[:-1], [-6, 12]),
        (good[:-4], [-6, 12]),
        (good[:-5], [-6, 11]),
        (good + "\n", [-6, 13]),
        (good + "###\n", [-6, 13]),
        (good + "#", [-6, 13]),
        (good.replace("front", "Front"), [-6, 0]),
        (good.replace("right", "right "), [-6, 5]),
        (good.replace("top", "pot"), [-6, 10]),
        (good.replace("front\n#.#", "front\n#x#"), [-6, 1]),
        (good.replace("right\n##", "right\n# "), [-6, 6]),
        (good.replace("top\n###", "top\n##\r"), [-6, 11]),
        (text_of("### ##", "# #", "###"), [-6, 2]),
        (text_of("### ####", "# #", "###"), [-6, 2]),
        (text_of("# #", "## #", "# #"), [-6, 5]),
        (text_of("# #", "## ###", "# #"), [-6, 5]),
        (text_of("##", "##", "## #"), [-6, 6]),
        (text_of("##", "##", "## ###"), [-6, 6]),
        (text_of("#" * 17, "#", "#" * 17), [-6, 1]),
        (text_of("#", "#" * 17, "#"), [-6, 3]),
        (text_of("", "#", "#"), [-6, 1]),
        ("front\n" + sixteen + "#\nright\n" + sixteen + "top\n#\n", [-6, 17]),
        ("front\n" + sixteen + "right\n" + sixteen + "#\ntop\n#\n", [-6, 34]),
        (text_of("#", "###", "# # # #"), [-6, 8]),
        (text_of("#", "###", "# #"), [-6, 7]),
        ("front\n#\nRight\n#\nTop\n", [-6, 2]),
        (smallest + "#" * (16384 - 22), [-6, 6]),
        ("#" * 16384, [-6, 0]),
        (smallest + "#" * (16385 - 22), [-2]),
        ("#" * 16385, [-2]),
        ("\n" * 20000, [-2]),
    ]


def refused_parts():
    """Parts' texts and their refusals, worked out from the document by hand."""
    block = "part a 3 2 4 x\n"
    inside = "cut 0 0 0 1 1 1\n"
    return [
        ("", [-6, 0, 3]),
        (inside, [-6, 0, 3]),
        (inside + block, [-6, 0, 3]),
        (block + block, [-6, 1, 3]),
        (block + inside * 2 + block, [-6, 3, 3]),
        ("\n", [-6, 0, 1]),
        ("front\n", [-6, 0, 1]),
        ("part a 3 2 4 x", [-6, 0, 1]),
        ("part a 3 2 4\n", [-6, 0, 1]),
        ("part A 3 2 4 x\n", [-6, 0, 1]),
        ("part a 3 2 4 w\n", [-6, 0, 1]),
        ("part a 0 2 4 x\n", [-6, 0, 1]),
        ("part a 3 17 4 x\n", [-6, 0, 1]),
        ("part a 3 2 04 x\n", [-6, 0, 1]),
        (block + "cut 0 0 0 0 1 1\n", [-6, 1, 1]),
        (block + inside + "cut 0 0 0 1 1 17\n", [-6, 2, 1]),
        (block + "cut 0 0 0 1 1\n" + block, [-6, 1, 1]),
        (block + inside + "\n", [-6, 2, 1]),
        (block + inside[:-1], [-6, 1, 1]),
        (block + "cut 3 0 0 1 1 1\n", [-6, 1, 4]),
        (block + "cut 0 1 0 1 2 1\n" + inside, [-6, 1, 4]),
        (block + inside * 5 + "cut 0 0 0 1 1 5\n", [-6, 6, 4]),
        (block + "cut 0 0 4294967296 1 1 1\n", [-6, 1, 4]),
        (block + inside * 65, [-6, 65, 2]),
        (block + inside * 64 + "cut 3 0 0 1 1 1\n", [-6, 65, 4]),
        (block + inside * 1023, [-6, 65, 2]),
        ("a" * 16384, [-6, 0, 1]),
        (block + "c" * (16384 - 15), [-6, 1, 1]),
        (block + "c" * (16385 - 15), [-2]),
        ("a" * 16385, [-2]),
        ("\n" * 20000, [-2]),
    ]


def places_of(w, d, h):
    """All places of a block of these sizes."""
    return [(x, y, z) for z in range(h) for y in range(d) for x in range(w)]


def part_of(w, d, h, had):
    """The text of a part of these sizes that has just these cells; no more than 64 may be cut away."""
    cuts = ["cut %d %d %d 1 1 1\n" % place for place in places_of(w, d, h) if place not in had]
    return "part a %d %d %d x\n" % (w, d, h) + "".join(cuts)


def parts_of(w, d, h):
    """For each set of cells of a block of these sizes: the cells, and the text of a part that has just them."""
    places = places_of(w, d, h)
    found = []
    for choice in range(1 << len(places)):
        had = frozenset(place for at, place in enumerate(places) if choice >> at & 1)
        found.append((had, part_of(w, d, h, had)))
    return found


def parts_of_many_sizes():
    """Parts of at most 64 cells, the same ones every time: w, d, h and the cells."""
    number = 1
    found = []
    for w, d, h in ((3, 4, 5), (4, 4, 4), (5, 4, 3), (2, 3, 4), (4, 3, 2), (3, 2, 4), (3, 3, 3), (7, 3, 3),
                    (16, 2, 2), (2, 16, 2), (2, 2, 16), (16, 4, 1), (1, 16, 4), (4, 1, 16),
                    (16, 1, 1), (1, 16, 1), (1, 1, 16)):
        # Of every 8 places as many as few are had.
        for few in (1, 2, 4, 6, 7):
            had = []
            for place in places_of(w, d, h):
                number = (number * 1103515245 + 12345) % 2147483648
                if number // 65536 % 8 < few:
                    had.append(place)
            found.append((w, d, h, frozenset(had)))
    return found


def parts_of_two():
    """What parts_of tells of a block of 2 each way."""
    return parts_of(2, 2, 2)


def drawings_of(w, d, h):
    """The text of every drawing of these sizes."""
    def views(long, many):
        rows = ["".join(signs) for signs in itertools.product("#.", repeat=long)]
        return [" ".join(chosen) for chosen in itertools.product(rows, repeat=many)]
    return [text_of(*chosen) for chosen in itertools.product(views(w, h), views(d, h), views(w, d))]


def drawings_of_two():
    """The text of every drawing whose w, d and h are 2."""
    return drawings_of(2, 2, 2)
