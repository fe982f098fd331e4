"""slice_of(z, drawing): the answers are worked out from the document by hand."""

import unittest

from tests.helping import Untouched, data, drawings_of_two, parts_of_two, refused_drawings, text_of
from threeviews.drawings import of, slice_of

LARGEST_NUMBER = 4294967295
BEYOND_16 = (16, 17, 31, 32, 63, 64, 255, 256, 65536, 2147483647, 2147483648, LARGEST_NUMBER)
FULL = text_of("### ### ### ###", "## ## ## ##", "### ###")
# The sizes are 3, 2, 4; it's of something.
MIXED = text_of("#.# #.. ### ###", "## #. ## ##", "### ##.")


def every(row, many):
    return " ".join([row] * many)


class SliceCase(unittest.TestCase):
    def tells(self, z, text, expected):
        with self.subTest(z=z, text=text[:200]):
            answer = slice_of(z, data(text))
            self.assertEqual(answer, expected)
            self.assertEqual({type(number) for number in answer}, {int})

    def shows(self, front, right, top, count, slices):
        """All slices from the highest z down, each of rows from the highest y down; above them it's -4.

        The count by hand: d * (w + 1), the signs of each row and its line feed.
        """
        text = text_of(front, right, top)
        upwards = slices.split()[::-1]
        for z, rows in enumerate(upwards):
            self.tells(z, text, [count] + data(rows.replace("/", "\n") + "\n"))
        self.tells(len(upwards), text, [-4])
        for z in BEYOND_16:
            self.tells(z, text, [-4])


class SlicesOfSomething(SliceCase):
    def test_byte_for_byte(self):
        # Upright at y 0: ##. at z 1, ### at z 0; at y 1: ##. at z 0 alone.
        drawing = [
            102, 114, 111, 110, 116, 10, 35, 35, 46, 10, 35, 35, 35, 10,
            114, 105, 103, 104, 116, 10, 35, 46, 10, 35, 35, 10,
            116, 111, 112, 10, 35, 35, 46, 10, 35, 35, 35, 10,
        ]
        self.assertEqual(slice_of(0, drawing), [8, 35, 35, 46, 10, 35, 35, 35, 10])
        self.assertEqual(slice_of(1, drawing), [8, 46, 46, 46, 10, 35, 35, 46, 10])
        self.assertEqual(slice_of(2, drawing), [-4])

    def test_all_cells(self):
        self.shows("### ### ### ###", "## ## ## ##", "### ###", 8, "###/### ###/### ###/### ###/###")
        self.shows("#### ####", "### ###", "#### #### ####", 15, "####/####/#### ####/####/####")
        self.shows("## ## ##", "#### #### ####", "## ## ## ##", 12, "##/##/##/## ##/##/##/## ##/##/##/##")

    def test_no_cell(self):
        self.shows("... ... ... ...", ".. .. .. ..", "... ...", 8, ".../... .../... .../... .../...")
        self.shows(".... ....", "... ...", ".... .... ....", 15, "..../..../.... ..../..../....")
        self.shows(".. .. ..", ".... .... ....", ".. .. .. ..", 12, "../../../.. ../../../.. ../../../..")

    def test_a_slice_without_a_cell_among_others(self):
        self.shows("### ... ###", "## .. ##", "### ###", 8, "###/### .../... ###/###")
        self.shows("... ##. ###", ".. ## #.", "##. ###", 8, ".../... ##./##. .../###")

    def test_some_cells(self):
        # z 3: x 0 and x 2, y 0 and y 1, but (2, 0) is light from above. z 2: x 0 and y 0 alone.
        self.shows("#.# #.. ### ###", "## #. ## ##", "### ##.", 8, "#.#/#.. .../#.. ###/##. ###/##.")
        # z 2: x 1, y 0 and y 3. z 1: both x, y 1 and y 2. z 0: x 0, y 0, y 2 and y 3.
        self.shows(".# ## #.", "#..# .##. #.##", "## #. .# ##", 12, ".#/../../.# ../#./.#/.. #./#./../#.")
        # A stair of three steps, then one that goes up to the back.
        self.shows("...# ..## ####", "## ## ##", "#### ####", 10, "...#/...# ..##/..## ####/####")
        self.shows("## ## ##", "...# .### ####", "## ## ## ##", 12, "##/../../.. ##/##/##/.. ##/##/##/##")

    def test_one_cell(self):
        self.shows("... ... ... #..", ".. .. .. #.", "... #..", 8, ".../... .../... .../... .../#..")
        self.shows("... ... ... ..#", ".. .. .. #.", "... ..#", 8, ".../... .../... .../... .../..#")
        self.shows("... ... ... #..", ".. .. .. .#", "#.. ...", 8, ".../... .../... .../... #../...")
        self.shows("#.. ... ... ...", "#. .. .. ..", "... #..", 8, ".../#.. .../... .../... .../...")
        self.shows("..# ... ... ...", ".# .. .. ..", "..# ...", 8, "..#/... .../... .../... .../...")
        self.shows("... .#. ... ...", ".. #. .. ..", "... .#.", 8, ".../... .../.#. .../... .../...")

    def test_sure_cells_stand_as_the_others(self):
        self.shows("..# .#. #..", "..# .#. #..", "..# .#. #..", 12, "..#/.../... .../.#./... .../.../#..")
        # At z 1 y 0 alone has cells, and these are sure.
        self.shows("### ###", "#. ##", "### ###", 8, ".../### ###/###")


class OrderOfASlice(SliceCase):
    def test_rows_stand_from_the_highest_y_down(self):
        self.shows("###", "##", "#.. ###", 8, "#../###")
        self.shows("###", "##", "### #..", 8, "###/#..")
        self.shows("##", "#.##", "## ## ## ##", 12, "##/##/../##")
        self.shows("##", "#...", "## ## ## ##", 12, "../../../##")
        self.shows("##", "...#", "## ## ## ##", 12, "##/../../..")

    def test_signs_stand_from_x_nought_on(self):
        self.shows("#..", "##", "### ###", 8, "#../#..")
        self.shows("..#", "##", "### ###", 8, "..#/..#")
        self.shows("###", "##", "##. ..#", 8, "##./..#")

    def test_slices_are_counted_from_below(self):
        self.shows("#.. .#. ..#", "# # #", "###", 4, "#.. .#. ..#")
        self.shows("# # #", "#.. .#. ..#", "# # #", 6, "././# ./#/. #/./.")


class CellsLeftOut(SliceCase):
    def test_light_in_the_front_view_alone(self):
        # (2, 1), then (0, 0).
        self.shows("##.# ####", "### ###", "#### #### ####", 15, "##.#/##.#/##.# ####/####/####")
        self.shows("#### .###", "### ###", "#### #### ####", 15, "####/####/#### .###/.###/.###")
        self.shows("##.#", "###", "#### #### ####", 15, "##.#/##.#/##.#")

    def test_light_in_the_right_view_alone(self):
        # (1, 1), then (0, 0).
        self.shows("#### ####", "#.# ###", "#### #### ####", 15, "####/..../#### ####/####/####")
        self.shows("#### ####", "### .##", "#### #### ####", 15, "####/####/#### ####/####/....")
        self.shows("####", "#.#", "#### #### ####", 15, "####/..../####")

    def test_light_in_the_top_view_alone(self):
        # (1, 1), then (3, 0).
        self.shows("#### ####", "### ###", "#### #.## ####", 15, "####/#.##/#### ####/#.##/####")
        self.shows("#### ####", "### ###", "#### #### ###.", 15, "####/####/###. ####/####/###.")
        self.shows("####", "###", "#### #.## ####", 15, "####/#.##/####")

    def test_light_in_each_view_somewhere(self):
        # Light are (2, 1) of the front view, (0, 1) of the right view and (0, 2) of the top view.
        self.shows("##.# ####", ".## ###", ".### #### ####", 15, ".#.#/##.#/.... .###/####/####")


class SlicesOfNothing(SliceCase):
    def test_a_dark_place_that_has_no_cell(self):
        # (2, 2) of the front view: at z 2 y 0 alone is dark from the right, and (2, 0) is light from above.
        self.shows("#.# #.# ### ###", "## #. ## ##", "### ##.", 8, "#.#/#.. .../#.. ###/##. ###/##.")
        # (1, 1) of the right view.
        self.shows("#.. ###", "## ##", ".## #..", 8, ".../#.. .##/#..")
        # (1, 1) of the top view: at z 1 y 1 is light, at z 0 x 1 is.
        self.shows("##.# #.##", "#.# .##", "#### .### #.#.", 15, "##.#/..../#... #.##/..##/....")

    def test_a_view_that_is_light(self):
        self.shows("... ...", "## ##", "### ###", 8, ".../... .../...")
        self.shows("### ###", ".. ..", "### ###", 8, ".../... .../...")
        self.shows("### ###", "## ##", "... ...", 8, ".../... .../...")

    def test_dark_places_that_never_meet(self):
        self.shows("#.. .##", "#. ##", "### .##", 8, ".../... .##/.##")
        self.shows("... .#. ... ...", ".. #. .. ..", "... #..", 8, ".../... .../... .../... .../...")
        self.shows("... .#. ... ...", ".. .. #. ..", "... .#.", 8, ".../... .../... .../... .../...")

    def test_rows_of_one_view_the_other_way_round(self):
        self.shows("#.. ###", "#. ##", ".## #..", 8, ".../#.. .##/#..")
        self.shows("### #..", "#. ##", ".## #..", 8, ".../#.. .../#..")
        self.shows("#.. ###", "## #.", ".## #..", 8, ".../#.. .../#..")
        self.shows("#.. ###", "#. ##", "#.. .##", 8, ".../... #../.##")


class HeightsOfASlice(SliceCase):
    def test_one_each_way(self):
        text = text_of("#", "#", "#")
        self.assertEqual(slice_of(0, data(text)), [2, 35, 10])
        for front, right, top in ("...", "#..", ".#.", "..#", "##.", "#.#", ".##"):
            self.assertEqual(slice_of(0, data(text_of(front, right, top))), [2, 46, 10])
        for z in (1, 2) + BEYOND_16:
            self.tells(z, text, [-4])

    def test_each_height(self):
        for h in range(1, 17):
            text = text_of(every("#.", h), every("#", h), "##")
            for z in range(h):
                self.tells(z, text, [3, 35, 46, 10])
            for z in tuple(range(h, 20)) + BEYOND_16:
                self.tells(z, text, [-4])

    def test_a_height_is_not_a_width_or_a_depth(self):
        # 16 wide and 2 high, then 16 deep and 2 high: z 2 is off the block.
        self.shows(every("#" * 16, 2), every("###", 2), every("#" * 16, 3), 51, every("/".join(["#" * 16] * 3), 2))
        self.shows(every("###", 2), every("#" * 16, 2), every("###", 16), 64, every("/".join(["###"] * 16), 2))
        # 1 wide and 1 deep, 16 high.
        self.shows(every("#", 16), every("#", 16), "#", 2, every("#", 16))

    def test_sixteen_one_way(self):
        self.shows("#" * 16, "#", "#" * 16, 17, "#" * 16)
        self.shows("#", "#" * 16, every("#", 16), 32, "/".join(["#"] * 16))
        self.shows("#" * 15 + ".", "#", "#" * 16, 17, "#" * 15 + ".")
        self.shows("#", "#" * 15 + ".", every("#", 16), 32, "/".join(["."] + ["#"] * 15))
        self.shows(". " + every("#", 15), every("#", 16), "#", 2, ". " + every("#", 15))

    def test_one_one_way(self):
        dark = every("#" * 16, 16)
        self.shows(every("#", 16), dark, every("#", 16), 32, every("/".join(["#"] * 16), 16))
        self.shows(dark, every("#", 16), "#" * 16, 17, dark)
        self.shows("#" * 16, "#" * 16, dark, 272, "/".join(["#" * 16] * 16))

    def test_sixteen_each_way(self):
        dark = every("#" * 16, 16)
        light = every("." * 16, 16)
        self.shows(dark, dark, dark, 272, every("/".join(["#" * 16] * 16), 16))
        self.shows(light, light, light, 272, every("/".join(["." * 16] * 16), 16))
        # Its last cell alone, (15, 15, 15).
        last = "." * 15 + "# " + every("." * 16, 15)
        none = "/".join(["." * 16] * 16)
        self.shows(last, last, last, 272, last.replace(" ", "/") + " " + every(none, 15))
        # All but the cells behind (0, 0) of the front view.
        holed = every("#" * 16, 15) + " ." + "#" * 15
        whole = "/".join(["#" * 16] * 16)
        self.shows(holed, dark, dark, 272, every(whole, 15) + " " + "/".join(["." + "#" * 15] * 16))
        self.shows(dark, holed, dark, 272, every(whole, 15) + " " + "/".join(["#" * 16] * 15 + ["." * 16]))
        self.shows(dark, dark, holed, 272, every("/".join(["#" * 16] * 15 + ["." + "#" * 15]), 16))


class SlicesOfAllSmallDrawings(unittest.TestCase):
    def test_every_drawing_of_two_each_way(self):
        """A cell is the most's if it's dark in all three views."""
        for text in drawings_of_two():
            rows = text.split()
            front, right, top = rows[2:0:-1], rows[5:3:-1], rows[8:6:-1]
            for z in range(2):
                expected = ""
                for y in (1, 0):
                    for x in range(2):
                        expected += "#" if front[z][x] + right[z][y] + top[y][x] == "###" else "."
                    expected += "\n"
                self.assertEqual(slice_of(z, data(text)), [6] + data(expected), text)

    def test_parts_lie_within_the_most(self):
        """Of all 256 parts of a block of 2 each way, each with its own drawing."""
        for had, text in parts_of_two():
            drawing = of(data(text))[1:]
            slices = [bytes(slice_of(z, drawing)[1:]).decode("ascii").split("\n") for z in range(2)]
            for x, y, z in had:
                self.assertEqual(slices[z][1 - y][x], "#", text)


class Refusals(SliceCase):
    def test_drawings_at_fault(self):
        """Also with z off the block: what's told of the text stands ahead of -4."""
        for text, refusal in refused_drawings():
            for z in (0, 1, 3, 4, 15, 16, LARGEST_NUMBER):
                self.tells(z, text, refusal)

    def test_a_text_of_16384_bytes_is_read(self):
        good = text_of("#", "#", "#")
        self.assertEqual(len(good), 22)
        for z in (0, 1, LARGEST_NUMBER):
            self.tells(z, good + "\n" * 16362, [-6, 6])
            self.tells(z, good + "\n" * 16363, [-2])

    def test_a_fault_above_the_slice_and_below_it(self):
        for z in (0, 1, 2, LARGEST_NUMBER):
            self.tells(z, text_of("#x ##", "# #", "##"), [-6, 1])
            self.tells(z, text_of("## #x", "# #", "##"), [-6, 2])
            self.tells(z, text_of("## ##", "# #", "## ##"), [-6, 8])

    def test_each_line_left_out_behind(self):
        lines = MIXED.splitlines(keepends=True)
        for many in range(len(lines)):
            for z in (0, 3, 4, LARGEST_NUMBER):
                self.tells(z, "".join(lines[:many]), [-6, many])
                self.tells(z, "".join(lines[:many + 1])[:-1], [-6, many])

    def test_each_byte_that_is_another(self):
        for at in range(len(MIXED)):
            wrong = data(MIXED)
            wrong[at] += 128
            for z in (0, 4):
                self.assertEqual(slice_of(z, wrong), [-6, MIXED[:at].count("\n")], at)


class EachCallByItself(unittest.TestCase):
    calls = ((3, MIXED), (0, MIXED), (4, MIXED), (2, FULL), (0, "front\n#\n"), (9, ""), (0, "#" * 16385))
    answers = [[8] + data("#.#\n#..\n"), [8] + data("###\n##.\n"), [-4], [8] + data("###\n###\n"),
               [-6, 2], [-6, 0], [-2]]

    def test_what_is_handed_in_stays(self):
        for z, text in self.calls:
            given = Untouched(data(text))
            slice_of(z, given)
            self.assertEqual(list(given), data(text))

    def test_a_second_call_answers_as_the_first(self):
        given = [(z, data(text)) for z, text in self.calls]
        first = [slice_of(z, drawing) for z, drawing in given]
        self.assertEqual(first, self.answers)
        self.assertEqual([slice_of(z, drawing) for z, drawing in given], self.answers)
        for answer in first:
            answer.append(7)
            answer[0] = 7
        self.assertEqual([slice_of(z, drawing) for z, drawing in given[::-1]], self.answers[::-1])


if __name__ == "__main__":
    unittest.main()
