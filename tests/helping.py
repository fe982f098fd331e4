"""What the tests share."""


def data(text):
    """The bytes of a text, as a list."""
    return list(text.encode("latin-1"))


def text_of(front, right, top):
    """A drawing's text of the views' rows, given in the order of the text, with blanks between."""
    rows = ["front"] + front.split() + ["right"] + right.split() + ["top"] + top.split()
    return "".join(row + "\n" for row in rows)


class Untouched(list):
    """A list that fails as soon as somebody changes it, were it for a while only."""

    def refuse(self, *args, **kwargs):
        raise AssertionError("what was handed in is changed")

    append = clear = extend = insert = pop = remove = reverse = sort = refuse
    __setitem__ = __delitem__ = __iadd__ = __imul__ = refuse
