"""The promises of the document, over all calls together."""

import re
import unittest

from tests.helping import (Untouched, data, drawings_of, part_of, parts_of, parts_of_many_sizes, places_of,
                           refused_drawings, refused_parts, text_of)
from threeviews.drawings import cell, has, judge, of, sizes, slice_of

FLAT_SIZES = ((2, 1, 2), (1, 2, 2), (2, 2, 1), (1, 1, 3), (3, 1, 1), (1, 3, 1))


def own_drawing(part):
    return of(data(part))[1:]


def most_in(drawing):
    """The cells of the most, by its slices."""
    w, d, h = sizes(drawing)[1:4]
    found = []
    for z in range(h):
        rows = bytes(slice_of(z, drawing)[1:]).decode("ascii").split("\n")
        found += [(x, y, z) for y in range(d) for x in range(w) if rows[d - 1 - y][x] == "#"]
    return frozenset(found)


def sure_in(drawing):
    """The sure cells, by cell."""
    w, d, h = sizes(drawing)[1:4]
    return frozenset(place for place in places_of(w, d, h) if cell(*place, drawing) == [2])


def by_drawing(parts):
    """The parts of each drawing: from its bytes to what parts_of tells of them."""
    found = {}
    for had, text in parts:
        found.setdefault(tuple(own_drawing(text)), []).append((had, text))
    return found


class OneDrawingOrOneFault(unittest.TestCase):
    """Promise 1."""

    # The lines of each drawing of at most 7 each way, as patterns; the texts below have no longer row.
    forms = [
        ["front"] + ["[#.]{%d}" % w] * h + ["right"] + ["[#.]{%d}" % d] * h + ["top"] + ["[#.]{%d}" % w] * d
        for w in range(1, 8) for d in range(1, 8) for h in range(1, 8)
    ]

    def fault_in(self, text):
        """The first line with which the text is no drawing's beginning, or None."""
        lines = text.split("\n")
        unended = lines.pop()
        left = self.forms
        for at, line in enumerate(lines):
            left = [form for form in left if len(form) > at and re.fullmatch(form[at], line)]
            if not left:
                return at
        if unended or len(lines) not in [len(form) for form in left]:
            return len(lines)
        self.assertEqual(len([form for form in left if len(form) == len(lines)]), 1)
        return None

    def variants(self, good):
        for at in range(len(good) + 1):
            yield good[:at]
            yield good[at:]
            yield good[:at] + good[at + 1:]
            for sign in "#.\nrt \xa3":
                yield good[:at] + sign + good[at:]
                yield good[:at] + sign + good[at + 1:]
        lines = good.splitlines(keepends=True)
        for at in range(len(lines)):
            yield "".join(lines[:at] + lines[at + 1:])
            for other in lines:
                yield "".join(lines[:at] + [other] + lines[at:])
                yield "".join(lines[:at] + [other] + lines[at + 1:])

    def test_each_text_has_one_or_the_other(self):
        good_ones = 0
        for good in (text_of("#", ".", "#"), text_of("#.# ###", "## .#", ".## #.."),
                     text_of("# .", "#.# ###", ". # #")):
            for text in self.variants(good):
                fault = self.fault_in(text)
                expected = [0] if fault is None else [-6, fault]
                good_ones += fault is None
                self.assertEqual(judge(data(text)), expected, text)
        self.assertGreater(good_ones, 50)

    def test_what_stands_behind_the_fault_changes_nothing(self):
        for text, refusal in refused_drawings():
            lines = text.split("\n")
            if len(refusal) == 2 and refusal[1] < len(lines) - 1:
                kept = "".join(line + "\n" for line in lines[:refusal[1] + 1])
                for behind in ("", "\n", "#", "#\n", "right\n", "top\n#\n", kept):
                    if len(kept + behind) <= 16384:
                        self.assertEqual(judge(data(kept + behind)), refusal)

    def test_every_call_tells_the_same_fault(self):
        part = data("part a 3 2 4 x\n")
        for text, refusal in refused_drawings():
            drawing = data(text)
            self.assertEqual(judge(drawing), refusal)
            self.assertEqual(sizes(drawing), refusal)
            self.assertEqual(cell(0, 0, 0, drawing), refusal)
            self.assertEqual(slice_of(0, drawing), refusal)
            self.assertEqual(has(part, drawing), refusal + [99] * (len(refusal) - 1))
        drawing = own_drawing("part a 3 2 4 x\n")
        for text, refusal in refused_parts():
            self.assertEqual(of(data(text)), refusal)
            self.assertEqual(has(data(text), drawing), refusal)

    def test_a_part_has_one_drawing_alone(self):
        """Of all drawings of its sizes, and of other sizes."""
        for w, d, h in FLAT_SIZES:
            drawings = [data(text) for text in drawings_of(w, d, h)]
            other = own_drawing(f"part a {w} {d} {h + 1} x\n")
            for had, text in parts_of(w, d, h):
                part = data(text)
                own = of(part)[1:]
                self.assertEqual([drawing for drawing in drawings if has(part, drawing) == [1]], [own])
                self.assertEqual(has(part, other), [0, 0, 0, 0])


class ItsOwnDrawing(unittest.TestCase):
    """Promise 2."""

    def own(self, text, w, d, h):
        part = data(text)
        answer = of(part)
        drawing = answer[1:]
        self.assertEqual(answer[0], len(drawing))
        self.assertEqual(judge(drawing), [0])
        self.assertEqual(has(part, drawing), [1])
        told = sizes(drawing)
        self.assertEqual(told[:4] + told[6:], [0, w, d, h, 1])
        return drawing

    def test_every_part_of_two_each_way(self):
        for had, text in parts_of(2, 2, 2):
            self.own(text, 2, 2, 2)

    def test_parts_of_many_sizes(self):
        for w, d, h, had in parts_of_many_sizes():
            drawing = self.own(part_of(w, d, h, had), w, d, h)
            # The views by their words: a place is dark if some cell in its line is had.
            front = {(x, z) for x, y, z in had}
            right = {(y, z) for x, y, z in had}
            top = {(x, y) for x, y, z in had}
            views = []
            for long, many, dark in ((w, h, front), (d, h, right), (w, d, top)):
                rows = ["".join("#" if (a, b) in dark else "." for a in range(long)) for b in range(many)]
                views.append(" ".join(rows[::-1]))
            self.assertEqual(drawing, data(text_of(*views)))

    def test_large_parts(self):
        for w, d, h, cuts in ((16, 16, 16, ""), (16, 16, 16, "cut 0 0 0 16 16 16\n"), (16, 15, 14, "cut 3 2 1 9 9 9\n"),
                              (15, 16, 3, "cut 0 0 0 14 16 3\ncut 0 0 0 15 15 3\n"), (5, 4, 16, "cut 1 2 3 4 2 1\n")):
            self.own(f"part a {w} {d} {h} y\n{cuts}", w, d, h)
        steps = "".join(f"cut {x} {x} {15 - x} {16 - x} {16 - x} 1\n" for x in range(16))
        drawing = self.own("part a 16 16 16 z\n" + steps, 16, 16, 16)
        # At z 15 all is off. Below it all is dark from the front and from the right, and from above all but
        # (15, 15). So the most has 15 slices of 255 cells, and none of them is alone in a line.
        self.assertEqual(sizes(drawing), [0, 16, 16, 16, 3825, 0, 1])
        self.assertEqual(slice_of(15, drawing), [272] + data(("." * 16 + "\n") * 16))
        self.assertEqual(slice_of(14, drawing), [272] + data("#" * 15 + ".\n" + ("#" * 16 + "\n") * 15))

    def test_two_parts_of_one_drawing(self):
        for drawing, parts in by_drawing(parts_of(2, 2, 2)).items():
            most = most_in(list(drawing))
            sure = sure_in(list(drawing))
            self.assertLessEqual(sure, most)
            for had, text in parts:
                self.assertEqual(has(data(text), list(drawing)), [1])
                self.assertLessEqual(had, most)
                self.assertLessEqual(sure, had)

    def test_what_the_parts_of_a_drawing_have_together(self):
        """A sure cell all of them have, and one that isn't sure some have not."""
        for drawing, parts in by_drawing(parts_of(2, 2, 2)).items():
            self.assertEqual(most_in(list(drawing)), frozenset.union(*[had for had, text in parts]))
            self.assertEqual(sure_in(list(drawing)), frozenset.intersection(*[had for had, text in parts]))

    def test_parts_of_many_sizes_within_the_most(self):
        for w, d, h, had in parts_of_many_sizes():
            drawing = own_drawing(part_of(w, d, h, had))
            most = most_in(drawing)
            sure = sure_in(drawing)
            self.assertLessEqual(had, most)
            self.assertLessEqual(sure, had)
            self.assertEqual(sizes(drawing)[4:6], [len(most), len(sure)])


class TheMostHasIt(unittest.TestCase):
    """Promise 3."""

    def answer_of_the_most(self, drawing, w, d, h):
        return has(data(part_of(w, d, h, most_in(drawing))), drawing)

    def test_every_drawing_of_two_each_way(self):
        had_ones = by_drawing(parts_of(2, 2, 2))
        for text in drawings_of(2, 2, 2):
            drawing = data(text)
            answer = self.answer_of_the_most(drawing, 2, 2, 2)
            self.assertEqual(answer == [1], tuple(drawing) in had_ones, text)
            self.assertEqual(sizes(drawing)[6], 1 if answer == [1] else 0, text)

    def test_every_flat_drawing_and_every_part(self):
        met = 0
        for w, d, h in FLAT_SIZES:
            parts = [data(text) for had, text in parts_of(w, d, h)]
            for text in drawings_of(w, d, h):
                drawing = data(text)
                some = [1] in [has(part, drawing) for part in parts]
                met += some
                self.assertEqual(self.answer_of_the_most(drawing, w, d, h) == [1], some, text)
                self.assertEqual(sizes(drawing)[6], 1 if some else 0, text)
        self.assertGreater(met, 0)

    def test_parts_of_many_sizes(self):
        for w, d, h, had in parts_of_many_sizes():
            drawing = own_drawing(part_of(w, d, h, had))
            self.assertEqual(self.answer_of_the_most(drawing, w, d, h), [1])


class MoreWood(unittest.TestCase):
    """Promise 4."""

    def test_every_part_of_two_each_way(self):
        """Any wood between a part and the most of its drawing has that drawing, too."""
        parts = parts_of(2, 2, 2)
        for drawing, having in by_drawing(parts).items():
            most = most_in(list(drawing))
            within = [(had, text) for had, text in parts if had <= most]
            for less, shown in having:
                for more, text in within:
                    if less <= more:
                        self.assertEqual(has(data(text), list(drawing)), [1])

    def test_cell_by_cell_to_the_most(self):
        for w, d, h, had in parts_of_many_sizes():
            drawing = own_drawing(part_of(w, d, h, had))
            now = set(had)
            for place in sorted(most_in(drawing) - had):
                now.add(place)
                self.assertEqual(has(data(part_of(w, d, h, now)), drawing), [1])

    def test_more_wood_beyond_the_most(self):
        """It makes a view darker."""
        for w, d, h, had in parts_of_many_sizes():
            drawing = own_drawing(part_of(w, d, h, had))
            for place in sorted(set(places_of(w, d, h)) - most_in(drawing)):
                answer = has(data(part_of(w, d, h, had | {place})), drawing)
                x, y, z = place
                self.assertIn(answer, ([0, 1, x, z], [0, 2, y, z], [0, 3, x, y]))

    def test_the_most_of_a_drawing_of_something(self):
        for w, d, h in FLAT_SIZES + ((2, 2, 2),):
            for text in drawings_of(w, d, h):
                drawing = data(text)
                of_the_most = own_drawing(part_of(w, d, h, most_in(drawing)))
                self.assertEqual(of_the_most == drawing, sizes(drawing)[6] == 1, text)

    def test_the_most_of_parts_of_many_sizes(self):
        for w, d, h, had in parts_of_many_sizes():
            drawing = own_drawing(part_of(w, d, h, had))
            self.assertEqual(own_drawing(part_of(w, d, h, most_in(drawing))), drawing)

    def test_the_most_without_a_cell(self):
        """Of a drawing of something: without a sure cell the most hasn't it, without another one it has."""
        drawings = list(by_drawing(parts_of(2, 2, 2)))
        drawings += [tuple(own_drawing(part_of(*chosen))) for chosen in parts_of_many_sizes()]
        for drawing in map(list, drawings):
            w, d, h = sizes(drawing)[1:4]
            most = most_in(drawing)
            for place in most:
                left = has(data(part_of(w, d, h, most - {place})), drawing)
                self.assertEqual(left != [1], cell(*place, drawing) == [2])


class CallsByThemselves(unittest.TestCase):
    def test_calls_in_any_order(self):
        """No call changes what another one answers, nor what it was handed."""
        part = Untouched(data("part a 3 2 4 x\ncut 1 0 2 1 2 2\ncut 2 0 0 1 1 4\n"))
        drawing = Untouched(data(text_of("#.# #.# ### ###", "## ## ## ##", "### ##.")))
        wrong = Untouched(data(text_of("#.# #.#", "## ##", "### ##")))
        kept = [list(part), list(drawing), list(wrong)]
        # Sure are the 4 cells at x 2, alone from the front, and (0, 0, 3) and (0, 0, 2), alone from the right.
        expected = [
            (lambda: of(part), [52] + kept[1]),
            (lambda: judge(drawing), [0]),
            (lambda: sizes(drawing), [0, 3, 2, 4, 16, 6, 1]),
            (lambda: cell(2, 1, 3, drawing), [2]),
            (lambda: slice_of(3, drawing), [8, 35, 46, 35, 10, 35, 46, 46, 10]),
            (lambda: slice_of(4, drawing), [-4]),
            (lambda: has(part, drawing), [1]),
            (lambda: of(drawing), [-6, 0, 1]),
            (lambda: judge(part), [-6, 0]),
            (lambda: has(part, wrong), [-6, 8, 99]),
            (lambda: has(wrong, drawing), [-6, 0, 1]),
            (lambda: sizes(wrong), [-6, 8]),
        ]
        for step in (1, 5, 7, 11):
            for at in range(len(expected)):
                call, answer = expected[at * step % len(expected)]
                self.assertEqual(call(), answer)
        self.assertEqual([list(part), list(drawing), list(wrong)], kept)


if __name__ == "__main__":
    unittest.main()
