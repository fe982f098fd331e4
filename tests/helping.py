"""What the tests share."""

import itertools


def data(text):
    """The bytes of a text, as a list."""
    return list(text.encode("latin-1"))


def text_of(front, right, top):
    """A drawing's text of the views' rows, given in the order of the text, with blanks between."""
    rows = ["front"] + front.split() + ["right"] + right.split() + ["top"] + top.split()
    return "".join(row + "\n" for row in rows)


class Untouched(list):
    """A list that fails as soon as somebody changes it, were it for a while only."""

    def refuse(self, *args, **kwargs):
        raise AssertionError("what was handed in is changed")

    append = clear = extend = insert = pop = remove = reverse = sort = refuse
    __setitem__ = __delitem__ = __iadd__ = __imul__ = refuse


def refused_drawings():
    """Drawings' texts and their refusals, worked out from the document by hand.

    Of the good text the lines are: front 0, rows 1 to 4, right 5, rows 6 to 9, top 10, rows 11 and 12.
    """
    good = text_of("#.# #.# ### ###", "## #. ## ##", "### ##.")
    smallest = text_of("#", "#", "#")
    sixteen = "#\n" * 16
    return [
        ("", [-6, 0]),
        ("front\n", [-6, 1]),
        ("front\n#\n", [-6, 2]),
        ("front\n#\nright\n", [-6, 3]),
        ("front\n#\nright\n#\n", [-6, 4]),
        ("front\n#\nright\n#\ntop\n", [-6, 5]),
        (good[:-1], [-6, 12]),
        (good[:-4], [-6, 12]),
        (good[:-5], [-6, 11]),
        (good + "\n", [-6, 13]),
        (good + "###\n", [-6, 13]),
        (good + "#", [-6, 13]),
        (good.replace("front", "Front"), [-6, 0]),
        (good.replace("right", "right "), [-6, 5]),
        (good.replace("top", "pot"), [-6, 10]),
        (good.replace("front\n#.#", "front\n#x#"), [-6, 1]),
        (good.replace("right\n##", "right\n# "), [-6, 6]),
        (good.replace("top\n###", "top\n##\r"), [-6, 11]),
        (text_of("### ##", "# #", "###"), [-6, 2]),
        (text_of("### ####", "# #", "###"), [-6, 2]),
        (text_of("# #", "## #", "# #"), [-6, 5]),
        (text_of("# #", "## ###", "# #"), [-6, 5]),
        (text_of("##", "##", "## #"), [-6, 6]),
        (text_of("##", "##", "## ###"), [-6, 6]),
        (text_of("#" * 17, "#", "#" * 17), [-6, 1]),
        (text_of("#", "#" * 17, "#"), [-6, 3]),
        (text_of("", "#", "#"), [-6, 1]),
        ("front\n" + sixteen + "#\nright\n" + sixteen + "top\n#\n", [-6, 17]),
        ("front\n" + sixteen + "right\n" + sixteen + "#\ntop\n#\n", [-6, 34]),
        (text_of("#", "###", "# # # #"), [-6, 8]),
        (text_of("#", "###", "# #"), [-6, 7]),
        ("front\n#\nRight\n#\nTop\n", [-6, 2]),
        (smallest + "#" * (16384 - 22), [-6, 6]),
        ("#" * 16384, [-6, 0]),
        (smallest + "#" * (16385 - 22), [-2]),
        ("#" * 16385, [-2]),
        ("\n" * 20000, [-2]),
    ]


def parts_of_two():
    """For each set of cells of a block of 2 each way: the cells, and the text of a part that has just them."""
    places = [(x, y, z) for z in range(2) for y in range(2) for x in range(2)]
    found = []
    for choice in range(256):
        had = [place for at, place in enumerate(places) if choice >> at & 1]
        cuts = ["cut %d %d %d 1 1 1\n" % place for place in places if place not in had]
        found.append((frozenset(had), "part a 2 2 2 x\n" + "".join(cuts)))
    return found


def drawings_of_two():
    """The text of every drawing whose w, d and h are 2."""
    views = ["%s%s %s%s" % signs for signs in itertools.product("#.", repeat=4)]
    return [text_of(front, right, top) for front, right, top in itertools.product(views, repeat=3)]
