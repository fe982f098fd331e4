"""cell(x, y, z, drawing): the answers are worked out from the document by hand."""

import unittest

from tests.helping import Untouched, data, drawings_of_two, parts_of_two, refused_drawings, text_of
from threeviews.drawings import cell, of, sizes

LARGEST_NUMBER = 4294967295
FULL = text_of("### ### ### ###", "## ## ## ##", "### ###")
DARK_16 = " ".join(["#" * 16] * 16)
# The sizes are 3, 2, 4, and some of the most is sure; it's of something.
MIXED = text_of("#.# #.. ### ###", "## #. ## ##", "### ##.")


class CellCase(unittest.TestCase):
    def tells(self, x, y, z, text, expected):
        with self.subTest(x=x, y=y, z=z, text=text[:200]):
            answer = cell(x, y, z, data(text))
            self.assertEqual(answer, [expected])
            self.assertEqual({type(number) for number in answer}, {int})

    def maps(self, front, right, top, answers):
        """The answers of all cells: slices from the highest z down, each of rows from the highest y down.

        Beyond the block, by one cell at least, all answers are 0.
        """
        text = text_of(front, right, top)
        slices = [rows.split("/")[::-1] for rows in answers.split()][::-1]
        for z in range(len(slices) + 1):
            for y in range(len(slices[0]) + 1):
                for x in range(len(slices[0][0]) + 1):
                    expected = 0
                    if z < len(slices) and y < len(slices[0]) and x < len(slices[0][0]):
                        expected = int(slices[z][y][x])
                    self.tells(x, y, z, text, expected)


class CellsThatTheMostHasNot(CellCase):
    def test_light_in_all_views(self):
        self.maps("... ... ... ...", ".. .. .. ..", "... ...", "000/000 000/000 000/000 000/000")

    def test_light_in_one_view_wholly(self):
        self.maps("... ...", "## ##", "### ###", "000/000 000/000")
        self.maps("### ###", ".. ..", "### ###", "000/000 000/000")
        self.maps("### ###", "## ##", "... ...", "000/000 000/000")

    def test_light_in_the_front_view_alone(self):
        # (2, 1) of the front view; below, at z 0, its three cells are alone from above.
        self.maps("##.# ####", "### ###", "#### #### ####", "1101/1101/1101 1121/1121/1121")
        self.maps("#. ##", "## ##", "## ##", "20/20 12/12")

    def test_light_in_the_right_view_alone(self):
        # (1, 1) of the right view; below, at z 0, its four cells are alone from above.
        self.maps("#### ####", "#.# ###", "#### #### ####", "1111/0000/1111 1111/2222/1111")
        self.maps("## ##", "#. ##", "## ##", "00/22 22/11")

    def test_light_in_the_top_view_alone(self):
        # (1, 1) of the top view.
        self.maps("#### ####", "### ###", "#### #.## ####", "1111/1011/1111 1111/1011/1111")
        self.maps("## ##", "## ##", "#. ##", "20/12 20/12")

    def test_one_dark_place_in_each_view(self):
        # (1, 2), (0, 2) and (1, 0): the cell (1, 0, 2).
        self.maps("... .#. ... ...", ".. #. .. ..", "... .#.", "000/000 000/020 000/000 000/000")
        # With one of the three places elsewhere there's no cell.
        self.maps("... ..# ... ...", ".. #. .. ..", "... .#.", "000/000 000/000 000/000 000/000")
        self.maps(".#. ... ... ...", ".. #. .. ..", "... .#.", "000/000 000/000 000/000 000/000")
        self.maps("... .#. ... ...", ".. .# .. ..", "... .#.", "000/000 000/000 000/000 000/000")
        self.maps("... .#. ... ...", ".. .. #. ..", "... .#.", "000/000 000/000 000/000 000/000")
        self.maps("... .#. ... ...", ".. #. .. ..", "... #..", "000/000 000/000 000/000 000/000")
        self.maps("... .#. ... ...", ".. #. .. ..", ".#. ...", "000/000 000/000 000/000 000/000")


class CellsThatAreNotSure(CellCase):
    def test_all_dark(self):
        self.maps("### ### ### ###", "## ## ## ##", "### ###", "111/111 111/111 111/111 111/111")
        self.maps("#### ####", "### ###", "#### #### ####", "1111/1111/1111 1111/1111/1111")
        self.maps("## ## ##", "#### #### ####", "## ## ## ##", "11/11/11/11 11/11/11/11 11/11/11/11")

    def test_two_apart_in_each_line(self):
        self.maps("## ## ##", "#.# #.# #.#", "## .. ##", "11/00/11 11/00/11 11/00/11")
        self.maps("#.# #.# #.#", "## ## ##", "#.# #.#", "101/101 101/101 101/101")
        self.maps("### ... ###", "## .. ##", "### ###", "111/111 000/000 111/111")

    def test_of_nothing(self):
        self.maps("### ###", "## ##", "##. ##.", "110/110 110/110")


class SureCells(CellCase):
    def test_alone_from_the_front_only(self):
        self.maps("### ### ### ###", ".# .# .# .#", "### ...", "222/000 222/000 222/000 222/000")

    def test_alone_from_the_right_only(self):
        self.maps("..# ..# ..# ..#", "## ## ## ##", "..# ..#", "002/002 002/002 002/002 002/002")

    def test_alone_from_above_only(self):
        self.maps("### ... ... ...", "## .. .. ..", "### ###", "222/222 000/000 000/000 000/000")

    def test_alone_from_the_front_and_the_right(self):
        self.maps(".#. .#. .#. .#.", "#. #. #. #.", "... .#.", "000/020 000/020 000/020 000/020")

    def test_alone_from_the_front_and_from_above(self):
        self.maps("... ### ... ...", ".. .# .. ..", "### ...", "000/000 222/000 000/000 000/000")

    def test_alone_from_the_right_and_from_above(self):
        self.maps("... ... .#. ...", ".. .. ## ..", ".#. .#.", "000/000 000/000 020/020 000/000")

    def test_alone_from_all_three(self):
        self.maps("..# .#. #..", "..# .#. #..", "..# .#. #..", "002/000/000 000/020/000 000/000/200")
        self.maps("#.. .#. ..#", "..# .#. #..", "#.. .#. ..#", "200/000/000 000/020/000 000/000/002")

    def test_some_and_others(self):
        # (0, 0, 3) and (0, 0, 2) are alone from the right, (2, 1, 3), (2, 1, 1) and (2, 1, 0) from the front.
        self.maps("#.# #.. ### ###", "## #. ## ##", "### ##.", "102/200 000/200 112/110 112/110")
        # At each z two cells are alone from the right, one from the front, and one, in the corner, from nowhere.
        self.maps("## ## ## ##", "### ### ### ###", "#. #. ##", "20/20/12 20/20/12 20/20/12 20/20/12")
        # Steps: what is high is alone from the front; what is low and behind, if it's 1 high, from above.
        self.maps("### ### ### ###", "#. #. ## ##", "### ###", "000/222 000/222 111/111 111/111")
        self.maps("### ### ### ###", "#. #. #. ##", "### ###", "000/222 000/222 000/222 222/111")

    def test_of_something_and_of_nothing(self):
        # (0, 1, 0) is alone from above, (1, 1, 0) and (2, 1, 0) from the front, the others from the right.
        self.maps("#.. ###", "#. ##", "### #..", "000/200 222/200")
        # A dark place more of the front view, at (1, 1), over which the most has no cell, changes no answer.
        self.maps("##. ###", "#. ##", "### #..", "000/200 222/200")
        # The same with the right view, at (1, 1), and with the top view, at (0, 1).
        self.maps("#.. ###", "#. ##", ".## #..", "000/200 022/200")
        self.maps("#.. ###", "## ##", ".## #..", "000/200 022/200")
        self.maps("#.. .##", "#. .#", ".## #..", "000/200 022/000")
        self.maps("#.. .##", "#. .#", "### #..", "000/200 022/000")
        # (2, 2) of the front view has no cell.
        self.maps("#.# #.# ### ###", "## #. ## ##", "### ##.", "102/200 000/200 112/110 112/110")

    def test_rows_stand_from_the_highest_down(self):
        self.maps("### #..", "#. ##", ".## #..", "000/200 000/200")
        self.maps("#.. ###", "## #.", ".## #..", "000/200 000/200")
        self.maps("#.. ###", "#. ##", "#.. .##", "000/000 200/022")


class PlacesOfTheBlock(CellCase):
    far = (5, 15, 16, 17, 31, 32, 63, 64, 256, 65536, 2147483648, LARGEST_NUMBER)

    def test_the_corners(self):
        for x in (0, 2):
            for y in (0, 1):
                for z in (0, 3):
                    self.tells(x, y, z, FULL, 1)

    def test_one_beyond_by_itself(self):
        self.tells(3, 1, 3, FULL, 0)
        self.tells(2, 2, 3, FULL, 0)
        self.tells(2, 1, 4, FULL, 0)
        self.tells(3, 0, 0, FULL, 0)
        self.tells(0, 2, 0, FULL, 0)
        self.tells(0, 0, 4, FULL, 0)

    def test_far_beyond(self):
        for number in self.far:
            for near in ((0, 0, 0), (2, 1, 3)):
                self.tells(number, near[1], near[2], FULL, 0)
                self.tells(near[0], number, near[2], FULL, 0)
                self.tells(near[0], near[1], number, FULL, 0)
            self.tells(number, number, number, FULL, 0)
            self.tells(number, 0, 0, MIXED, 0)
            self.tells(0, number, 0, MIXED, 0)
            self.tells(0, 0, number, MIXED, 0)

    def test_one_each_way(self):
        text = text_of("#", "#", "#")
        self.assertEqual(cell(0, 0, 0, [
            102, 114, 111, 110, 116, 10, 35, 10,
            114, 105, 103, 104, 116, 10, 35, 10,
            116, 111, 112, 10, 35, 10,
        ]), [2])
        for number in (1,) + self.far:
            self.tells(number, 0, 0, text, 0)
            self.tells(0, number, 0, text, 0)
            self.tells(0, 0, number, text, 0)
        for front, right, top in ("...", "#..", ".#.", "..#", "##.", "#.#", ".##"):
            self.tells(0, 0, 0, text_of(front, right, top), 0)

    def test_sixteen_one_way(self):
        column = " ".join(["#"] * 16)
        for number in range(18):
            expected = 2 if number < 16 else 0
            self.tells(number, 0, 0, text_of("#" * 16, "#", "#" * 16), expected)
            self.tells(0, number, 0, text_of("#", "#" * 16, column), expected)
            self.tells(0, 0, number, text_of(column, column, "#"), expected)
        self.tells(15, 1, 0, text_of("#" * 16, "#", "#" * 16), 0)
        self.tells(15, 0, 1, text_of("#" * 16, "#", "#" * 16), 0)
        self.tells(1, 15, 0, text_of("#", "#" * 16, column), 0)
        self.tells(0, 15, 1, text_of("#", "#" * 16, column), 0)
        self.tells(1, 0, 15, text_of(column, column, "#"), 0)
        self.tells(0, 1, 15, text_of(column, column, "#"), 0)

    def test_sixteen_each_way(self):
        text = text_of(DARK_16, DARK_16, DARK_16)
        for number in (0, 7, 15):
            self.tells(number, 15, 0, text, 1)
            self.tells(0, number, 15, text, 1)
            self.tells(15, 0, number, text, 1)
        for number in (16, 17, 32, 64, LARGEST_NUMBER):
            self.tells(number, 15, 15, text, 0)
            self.tells(15, number, 15, text, 0)
            self.tells(15, 15, number, text, 0)
        self.tells(LARGEST_NUMBER, LARGEST_NUMBER, LARGEST_NUMBER, text, 0)

    def test_one_cell_of_4096(self):
        light = " ".join(["." * 16] * 15)
        last = "." * 15 + "# " + light
        first = light + " #" + "." * 15
        self.tells(15, 15, 15, text_of(last, last, last), 2)
        self.tells(0, 0, 0, text_of(last, last, last), 0)
        self.tells(14, 15, 15, text_of(last, last, last), 0)
        self.tells(15, 14, 15, text_of(last, last, last), 0)
        self.tells(15, 15, 14, text_of(last, last, last), 0)
        self.tells(0, 0, 0, text_of(first, first, first), 2)
        self.tells(15, 15, 15, text_of(first, first, first), 0)


class PartsOfOneDrawing(unittest.TestCase):
    places = [(x, y, z) for z in range(2) for y in range(2) for x in range(2)]

    def answers(self, drawing):
        return {place: cell(*place, drawing)[0] for place in self.places}

    def test_parts_lie_within_the_most_and_have_what_is_sure(self):
        """Of all 256 parts of a block of 2 each way."""
        groups = {}
        for had, text in parts_of_two():
            groups.setdefault(tuple(of(data(text))[1:]), []).append(had)
        for drawing, parts in groups.items():
            answers = self.answers(list(drawing))
            most = frozenset(place for place in self.places if answers[place] != 0)
            sure = frozenset(place for place in self.places if answers[place] == 2)
            for had in parts:
                self.assertLessEqual(had, most)
                self.assertLessEqual(sure, had)
            # The most has the drawing, and so has all that lies between one of the parts and the most.
            self.assertIn(most, parts)
            for had, text in parts_of_two():
                if had <= most and any(less <= had for less in parts):
                    self.assertIn(had, parts)
            # Without a sure cell the most hasn't the drawing, without another one it has.
            for place in most:
                self.assertEqual(most - {place} in parts, place not in sure)

    def test_every_drawing_of_two_each_way(self):
        for text in drawings_of_two():
            lines = text.splitlines()
            answers = self.answers(data(text))
            for x, y, z in self.places:
                dark = lines[2 - z][x] + lines[5 - z][y] + lines[8 - y][x] == "###"
                self.assertEqual(answers[(x, y, z)] != 0, dark)
            told = sizes(data(text))
            self.assertEqual(told[4], sum(number != 0 for number in answers.values()))
            self.assertEqual(told[5], sum(number == 2 for number in answers.values()))

    def test_the_drawing_of_the_most(self):
        for text in ("part a 3 4 3 x\ncut 1 1 0 1 2 3\n", "part a 4 3 2 y\ncut 0 0 1 3 2 1\ncut 3 2 0 1 1 2\n",
                     "part a 2 3 5 z\ncut 0 0 0 1 1 1\ncut 1 2 1 1 1 4\ncut 0 1 2 2 1 2\n", "part a 1 1 1 x\n"):
            w, d, h = [int(word) for word in text.split()[2:5]]
            drawing = of(data(text))[1:]
            most = f"part most {w} {d} {h} x\n"
            for x in range(w):
                for y in range(d):
                    for z in range(h):
                        if cell(x, y, z, drawing) == [0]:
                            most += f"cut {x} {y} {z} 1 1 1\n"
            self.assertEqual(of(data(most))[1:], drawing, text)


class Refusals(unittest.TestCase):
    def test_drawings_at_fault(self):
        for text, refusal in refused_drawings():
            for x, y, z in ((0, 0, 0), (2, 1, 3), (3, 0, 0), (0, 2, 0), (0, 0, 4), (16, 16, 16),
                            (LARGEST_NUMBER, LARGEST_NUMBER, LARGEST_NUMBER)):
                with self.subTest(x=x, y=y, z=z, text=text[:200]):
                    self.assertEqual(cell(x, y, z, data(text)), refusal)

    def test_a_text_of_16384_bytes_is_read(self):
        good = text_of("#", "#", "#")
        self.assertEqual(len(good), 22)
        for number in (0, 1, LARGEST_NUMBER):
            self.assertEqual(cell(number, 0, 0, data(good + "\n" * 16362)), [-6, 6])
            self.assertEqual(cell(0, 0, number, data(good + "\n" * 16363)), [-2])

    def test_each_line_left_out_behind(self):
        lines = text_of("#. ##", "### ..#", "## #. .#").splitlines(keepends=True)
        for many in range(len(lines)):
            for z in (0, 2):
                self.assertEqual(cell(0, 0, z, data("".join(lines[:many]))), [-6, many])
                self.assertEqual(cell(0, 0, z, data("".join(lines[:many + 1])[:-1])), [-6, many])


class EachCallByItself(unittest.TestCase):
    calls = ((2, 1, 3, MIXED), (0, 1, 3, MIXED), (1, 1, 3, MIXED), (2, 1, 4, MIXED), (0, 0, 0, FULL),
             (LARGEST_NUMBER, 0, 0, FULL), (0, 0, 0, "front\n#\n"), (0, 0, 0, ""), (0, 0, 0, "#" * 16385))

    def test_what_is_handed_in_stays(self):
        for x, y, z, text in self.calls:
            given = Untouched(data(text))
            cell(x, y, z, given)
            self.assertEqual(list(given), data(text))

    def test_a_second_call_answers_as_the_first(self):
        given = [(x, y, z, data(text)) for x, y, z, text in self.calls]
        first = [cell(*call) for call in given]
        kept = [list(answer) for answer in first]
        self.assertEqual(kept, [[2], [1], [0], [0], [1], [0], [-6, 2], [-6, 0], [-2]])
        self.assertEqual([cell(*call) for call in given], kept)
        for answer in first:
            answer.append(7)
            answer[0] = 7
        self.assertEqual([cell(*call) for call in reversed(given)], list(reversed(kept)))


if __name__ == "__main__":
    unittest.main()
