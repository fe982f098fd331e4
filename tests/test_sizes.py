"""sizes(drawing): the answers are worked out from the document by hand."""

import unittest

from tests.helping import Untouched, data, drawings_of_two, parts_of_two, refused_drawings, text_of
from threeviews.drawings import of, sizes


def every(row, many):
    """The row so many times, with blanks between."""
    return " ".join([row] * many)


DARK_16 = every("#" * 16, 16)
LIGHT_16 = every("." * 16, 16)


class SizesCase(unittest.TestCase):
    def tells(self, front, right, top, expected):
        text = text_of(front, right, top)
        with self.subTest(text=text[:200]):
            answer = sizes(data(text))
            self.assertEqual(answer, expected)
            self.assertEqual({type(number) for number in answer}, {int})


class DrawingsOfSomething(SizesCase):
    def test_one_cell_byte_for_byte(self):
        self.assertEqual(sizes([
            102, 114, 111, 110, 116, 10, 35, 10,
            114, 105, 103, 104, 116, 10, 35, 10,
            116, 111, 112, 10, 35, 10,
        ]), [0, 1, 1, 1, 1, 1, 1])

    def test_all_dark(self):
        self.tells("### ### ### ###", "## ## ## ##", "### ###", [0, 3, 2, 4, 24, 0, 1])
        self.tells("#### ####", "### ###", "#### #### ####", [0, 4, 3, 2, 24, 0, 1])
        self.tells("## ## ##", "#### #### ####", "## ## ## ##", [0, 2, 4, 3, 24, 0, 1])

    def test_all_light(self):
        # Of a part that has no cell.
        self.tells("... ... ... ...", ".. .. .. ..", "... ...", [0, 3, 2, 4, 0, 0, 1])
        self.tells(".... ....", "... ...", ".... .... ....", [0, 4, 3, 2, 0, 0, 1])

    def test_some_sure_and_some_not(self):
        # Rows at y 0 and y 1: z 3: #.. and #.#, z 2: #.. and none, z 1 and z 0: ##. and ###.
        # Sure: (0, 0, 3) and (0, 0, 2) from the right, (2, 1, 3), (2, 1, 1) and (2, 1, 0) from the front.
        self.tells("#.# #.. ### ###", "## #. ## ##", "### ##.", [0, 3, 2, 4, 14, 5, 1])

    def test_a_corner(self):
        # Upright, 4 high: 4 cells at x 1, y 0 alone from the front; 8 at y 1 and y 2 alone from the right;
        # the 4 at x 0, y 0 are alone in no line.
        self.tells("## ## ## ##", "### ### ### ###", "#. #. ##", [0, 2, 3, 4, 16, 12, 1])
        # A step, 3 wide: at z 3 and z 2 y 0 alone has cells, so these 6 are alone from the front.
        self.tells("### ### ### ###", "#. #. ## ##", "### ###", [0, 3, 2, 4, 18, 6, 1])
        # Now the 3 at y 1, z 0 are alone from above, besides the 9 of z 1 to z 3 from the front.
        self.tells("### ### ### ###", "#. #. #. ##", "### ###", [0, 3, 2, 4, 15, 12, 1])

    def test_a_slope(self):
        self.tells("..# .#. #..", "..# .#. #..", "..# .#. #..", [0, 3, 3, 3, 3, 3, 1])
        self.tells("#.. .#. ..#", "..# .#. #..", "#.. .#. ..#", [0, 3, 3, 3, 3, 3, 1])

    def test_rows_stand_from_the_highest_down(self):
        # The cells (0, 0, 1), (0, 0, 0), (1, 1, 0), (2, 1, 0).
        self.tells("#.. ###", "#. ##", ".## #..", [0, 3, 2, 2, 4, 4, 1])
        # With the rows of one view the other way round nothing has it.
        self.tells("### #..", "#. ##", ".## #..", [0, 3, 2, 2, 2, 2, 0])
        self.tells("#.. ###", "## #.", ".## #..", [0, 3, 2, 2, 2, 2, 0])
        self.tells("#.. ###", "#. ##", "#.. .##", [0, 3, 2, 2, 3, 3, 0])


class DrawingsOfNothing(SizesCase):
    def test_a_dark_place_of_the_front_view(self):
        self.tells("#", "#", "#", [0, 1, 1, 1, 1, 1, 1])
        self.tells("##", "#", "#.", [0, 2, 1, 1, 1, 1, 0])
        # The cells (0, 0, 1) and, at z 0, #.. and ###; then (1, 1) of the front view is dark besides.
        self.tells("#.. ###", "#. ##", "### #..", [0, 3, 2, 2, 5, 5, 1])
        self.tells("##. ###", "#. ##", "### #..", [0, 3, 2, 2, 5, 5, 0])
        # At z 2 y 0 alone is dark from the right, and (2, 0) is light from above: (2, 2) has no cell.
        self.tells("#.# #.# ### ###", "## #. ## ##", "### ##.", [0, 3, 2, 4, 14, 5, 0])

    def test_a_dark_place_of_the_right_view(self):
        self.tells("#", "##", ". #", [0, 1, 2, 1, 1, 1, 0])
        # The cells (0, 0, 1), (0, 0, 0), (1, 1, 0), (2, 1, 0); (1, 1) of the right view has none.
        self.tells("#.. ###", "## ##", ".## #..", [0, 3, 2, 2, 4, 4, 0])

    def test_a_dark_place_of_the_top_view(self):
        self.tells("#.", "#", "##", [0, 2, 1, 1, 1, 1, 0])
        # The cells (0, 0, 1), (1, 1, 0), (2, 1, 0).
        self.tells("#.. .##", "#. .#", ".## #..", [0, 3, 2, 2, 3, 3, 1])
        self.tells("#.. .##", "#. .#", "### #..", [0, 3, 2, 2, 3, 3, 0])

    def test_a_view_that_is_light(self):
        self.tells("... ... ... ...", "## ## ## ##", "### ###", [0, 3, 2, 4, 0, 0, 0])
        self.tells("### ### ### ###", ".. .. .. ..", "### ###", [0, 3, 2, 4, 0, 0, 0])
        self.tells("### ### ### ###", "## ## ## ##", "... ...", [0, 3, 2, 4, 0, 0, 0])
        self.tells("... ... ... ...", ".. .. .. ..", "### ###", [0, 3, 2, 4, 0, 0, 0])

    def test_no_cell_alone(self):
        self.tells("### ###", "## ##", "##. ##.", [0, 3, 2, 2, 8, 0, 0])

    def test_views_without_a_common_cell(self):
        self.tells("#. ..", ".. ##", "## ##", [0, 2, 2, 2, 0, 0, 0])
        self.tells("..# .#. #..", "..# .#. #..", "### ### ###", [0, 3, 3, 3, 3, 3, 0])


class AloneFromOneSide(SizesCase):
    def test_from_the_front_only(self):
        # All of y 1.
        self.tells("### ### ### ###", ".# .# .# .#", "### ...", [0, 3, 2, 4, 12, 12, 1])

    def test_from_the_right_only(self):
        # All of x 2.
        self.tells("..# ..# ..# ..#", "## ## ## ##", "..# ..#", [0, 3, 2, 4, 8, 8, 1])

    def test_from_above_only(self):
        # All of z 3.
        self.tells("### ... ... ...", "## .. .. ..", "### ###", [0, 3, 2, 4, 6, 6, 1])

    def test_two_in_each_line_are_not_alone(self):
        # The front and the back wall, then the left and the right, then bottom and top.
        self.tells("## ## ##", "#.# #.# #.#", "## .. ##", [0, 2, 3, 3, 12, 0, 1])
        self.tells("#.# #.# #.#", "## ## ##", "#.# #.#", [0, 3, 2, 3, 12, 0, 1])
        self.tells("### ... ###", "## .. ##", "### ###", [0, 3, 2, 3, 12, 0, 1])

    def test_three_in_a_line_are_not_alone(self):
        self.tells("### ### ###", "### ### ###", "### ### ###", [0, 3, 3, 3, 27, 0, 1])

    def test_of_nothing(self):
        # 4 cells of one plane, and in the top view one dark place more: (2, 0), then (0, 2), then (2, 1).
        self.tells("##. ##.", ".# .#", "##. ..#", [0, 3, 2, 2, 4, 4, 0])
        self.tells(".#. .#.", "##. ##.", "#.. .#. .#.", [0, 3, 3, 2, 4, 4, 0])
        self.tells("##. ...", "## ..", "### ##.", [0, 3, 2, 2, 4, 4, 0])


class SizesOfOneAndSixteen(SizesCase):
    def test_one_each_way(self):
        self.tells(".", ".", ".", [0, 1, 1, 1, 0, 0, 1])
        for front, right, top in ("#..", ".#.", "..#", "##.", "#.#", ".##"):
            self.tells(front, right, top, [0, 1, 1, 1, 0, 0, 0])

    def test_sixteen_one_way(self):
        self.tells("#" * 16, "#", "#" * 16, [0, 16, 1, 1, 16, 16, 1])
        self.tells("#", "#" * 16, every("#", 16), [0, 1, 16, 1, 16, 16, 1])
        self.tells(every("#", 16), every("#", 16), "#", [0, 1, 1, 16, 16, 16, 1])
        self.tells(every("#" * 16, 3), every("##", 3), every("#" * 16, 2), [0, 16, 2, 3, 96, 0, 1])
        self.tells(every("##", 3), every("#" * 16, 3), every("##", 16), [0, 2, 16, 3, 96, 0, 1])
        self.tells(every("##", 16), every("###", 16), every("##", 3), [0, 2, 3, 16, 96, 0, 1])

    def test_one_one_way(self):
        self.tells(every("#", 16), DARK_16, every("#", 16), [0, 1, 16, 16, 256, 256, 1])
        self.tells(DARK_16, every("#", 16), "#" * 16, [0, 16, 1, 16, 256, 256, 1])
        self.tells("#" * 16, "#" * 16, DARK_16, [0, 16, 16, 1, 256, 256, 1])

    def test_sixteen_each_way(self):
        self.tells(DARK_16, DARK_16, DARK_16, [0, 16, 16, 16, 4096, 0, 1])
        self.tells(LIGHT_16, LIGHT_16, LIGHT_16, [0, 16, 16, 16, 0, 0, 1])
        self.tells(DARK_16, LIGHT_16, DARK_16, [0, 16, 16, 16, 0, 0, 0])

    def test_one_cell_of_4096(self):
        last = "." * 15 + "# " + every("." * 16, 15)
        first = every("." * 16, 15) + " #" + "." * 15
        self.tells(last, last, last, [0, 16, 16, 16, 1, 1, 1])
        self.tells(first, first, first, [0, 16, 16, 16, 1, 1, 1])
        self.tells(last, last, first, [0, 16, 16, 16, 0, 0, 0])

    def test_all_but_one_line(self):
        holed = "#" * 15 + ". " + every("#" * 16, 15)
        self.tells(DARK_16, DARK_16, holed, [0, 16, 16, 16, 4080, 0, 1])
        self.tells(DARK_16, holed, DARK_16, [0, 16, 16, 16, 4080, 0, 1])
        self.tells(holed, DARK_16, DARK_16, [0, 16, 16, 16, 4080, 0, 1])


class DrawingsOfParts(unittest.TestCase):
    def test_every_drawing_of_two_each_way(self):
        """It's of something if one of the 256 parts has it; then the most is all that these have together."""
        parts = {}
        for had, text in parts_of_two():
            parts.setdefault(tuple(of(data(text))[1:]), []).append(had)
        drawings = [data(text) for text in drawings_of_two()]
        self.assertEqual(len(drawings), 4096)
        met = 0
        for drawing in drawings:
            answer = sizes(drawing)
            self.assertEqual(answer[:4], [0, 2, 2, 2])
            having = parts.get(tuple(drawing))
            self.assertEqual(answer[6], 0 if having is None else 1)
            if having is not None:
                met += 1
                # Without a sure cell the most hasn't the drawing, so just these are what all parts have.
                self.assertEqual(answer[4], len(frozenset.union(*having)))
                self.assertEqual(answer[5], len(frozenset.intersection(*having)))
        self.assertEqual(met, len(parts))

    def test_a_part_with_its_own_drawing(self):
        # 36 cells but the 6 in the middle; the front wall and the back wall hide one another.
        frame = of(data("part frame 3 4 3 x\ncut 1 1 0 1 2 3\n"))
        self.assertEqual(sizes(frame[1:]), [0, 3, 4, 3, 30, 0, 1])
        for text in ("part a 5 4 16 x\ncut 1 2 3 4 2 1\ncut 0 0 15 5 4 1\n", "part a 16 16 16 z\ncut 0 0 0 16 16 16\n",
                     "part a 7 3 5 y\ncut 0 0 0 6 2 4\n", "part a 1 16 1 x\ncut 0 3 0 1 9 1\n"):
            self.assertEqual(sizes(of(data(text))[1:])[6], 1, text)


class Refusals(unittest.TestCase):
    def test_drawings_at_fault(self):
        for text, refusal in refused_drawings():
            with self.subTest(text=text[:200]):
                self.assertEqual(sizes(data(text)), refusal)

    def test_a_text_of_16384_bytes_is_read(self):
        good = text_of("#", "#", "#")
        self.assertEqual(len(good), 22)
        self.assertEqual(sizes(data(good + "\n" * 16362)), [-6, 6])
        self.assertEqual(sizes(data(good + "\n" * 16363)), [-2])

    def test_each_line_left_out_behind(self):
        lines = text_of("#. ##", "### ..#", "## #. .#").splitlines(keepends=True)
        for many in range(len(lines)):
            self.assertEqual(sizes(data("".join(lines[:many]))), [-6, many])
            self.assertEqual(sizes(data("".join(lines[:many + 1])[:-1])), [-6, many])

    def test_each_byte_that_is_another(self):
        good = text_of("#. ##", "### ..#", "## #. .#")
        for at in range(len(good)):
            wrong = data(good)
            wrong[at] += 128
            self.assertEqual(sizes(wrong), [-6, good[:at].count("\n")], at)


class EachCallByItself(unittest.TestCase):
    texts = (text_of("#.# #.. ### ###", "## #. ## ##", "### ##."), text_of(DARK_16, DARK_16, DARK_16),
             text_of("##", "#", "#."), "front\n#\n", "", "#" * 16385)

    def test_what_is_handed_in_stays(self):
        for text in self.texts:
            given = Untouched(data(text))
            sizes(given)
            self.assertEqual(list(given), data(text))

    def test_a_second_call_answers_as_the_first(self):
        given = [data(text) for text in self.texts]
        first = [sizes(drawing) for drawing in given]
        kept = [list(answer) for answer in first]
        self.assertEqual(kept, [[0, 3, 2, 4, 14, 5, 1], [0, 16, 16, 16, 4096, 0, 1], [0, 2, 1, 1, 1, 1, 0],
                                [-6, 2], [-6, 0], [-2]])
        self.assertEqual([sizes(drawing) for drawing in given], kept)
        for answer in first:
            answer.append(7)
            answer[0] = 7
        self.assertEqual([sizes(drawing) for drawing in reversed(given)], list(reversed(kept)))


if __name__ == "__main__":
    unittest.main()
