"""has(part, drawing): the answers are worked out from the document by hand."""

import unittest

from tests.helping import Untouched, data, refused_drawings, refused_parts, text_of
from threeviews.drawings import has, of

# The block whose sizes are 3, 2, 4, and its drawing.
BLOCK = "part a 3 2 4 x\n"
FRONT, RIGHT, TOP = "### ### ### ###", "## ## ## ##", "### ###"
FULL = text_of(FRONT, RIGHT, TOP)


def every(row, many):
    return " ".join([row] * many)


class HasCase(unittest.TestCase):
    def answers(self, part, drawing, expected):
        with self.subTest(part=part[:200], drawing=drawing[:200]):
            answer = has(data(part), data(drawing))
            self.assertEqual(answer, expected)
            self.assertEqual({type(number) for number in answer}, {int})

    def has_it(self, part, front, right, top):
        self.answers(part, text_of(front, right, top), [1])

    def differs(self, part, front, right, top, *difference):
        self.answers(part, text_of(front, right, top), [0] + list(difference))


class PartsThatHaveTheDrawing(HasCase):
    def test_byte_for_byte(self):
        part = [112, 97, 114, 116, 32, 97, 32, 49, 32, 49, 32, 49, 32, 120, 10]
        drawing = [
            102, 114, 111, 110, 116, 10, 35, 10,
            114, 105, 103, 104, 116, 10, 35, 10,
            116, 111, 112, 10, 35, 10,
        ]
        self.assertEqual(has(part, drawing), [1])
        drawing[-2] = 46
        self.assertEqual(has(part, drawing), [0, 3, 0, 0])

    def test_blocks_without_cuts(self):
        self.has_it(BLOCK, FRONT, RIGHT, TOP)
        self.has_it("part b 4 3 2 y\n", "#### ####", "### ###", "#### #### ####")
        self.has_it("part c 2 4 3 z\n", "## ## ##", "#### #### ####", "## ## ## ##")

    def test_names_and_grains(self):
        for name in ("a", "0", "shelf", "part", "abcdefghijkl", "123456789012"):
            for grain in "xyz":
                self.has_it(f"part {name} 3 2 4 {grain}\n", FRONT, RIGHT, TOP)

    def test_blocks_with_cuts(self):
        self.has_it(BLOCK + "cut 1 0 2 1 2 2\n", "#.# #.# ### ###", RIGHT, TOP)
        self.has_it(BLOCK + "cut 0 1 3 3 1 1\n", FRONT, "#. ## ## ##", TOP)
        self.has_it(BLOCK + "cut 2 0 0 1 1 4\n", FRONT, RIGHT, "### ##.")
        self.has_it("part stair 3 2 3 x\ncut 1 0 2 2 2 1\ncut 2 0 1 1 2 1\n", "#.. ##. ###", "## ## ##", "### ###")

    def test_the_most_and_less_of_it(self):
        # The most has, from z 3 down and from y 1 down: #.#/#.. .../#.. ###/##. ###/##.
        most = BLOCK + "cut 1 0 3 1 2 1\ncut 2 0 0 1 1 4\ncut 1 0 2 2 2 1\ncut 0 1 2 1 1 1\n"
        views = ("#.# #.. ### ###", "## #. ## ##", "### ##.")
        self.has_it(most, *views)
        # (1, 0, 1) isn't sure; without (1, 0, 0), too, (1, 0) is light from above.
        self.has_it(most + "cut 1 0 1 1 1 1\n", *views)
        self.has_it(most + "cut 1 0 0 1 1 1\n", *views)
        self.differs(most + "cut 1 0 0 1 1 2\n", *views, 3, 1, 0)
        # Each sure one: without it the front view or the right view has a light place more.
        self.differs(most + "cut 2 1 3 1 1 1\n", *views, 1, 2, 3)
        self.differs(most + "cut 0 0 2 1 1 1\n", *views, 1, 0, 2)
        self.differs(most + "cut 2 1 1 1 1 1\n", *views, 1, 2, 1)
        self.differs(most + "cut 2 1 0 1 1 1\n", *views, 1, 2, 0)
        self.differs(most + "cut 0 0 3 1 1 1\n", *views, 2, 0, 3)

    def test_cells_that_no_view_shows(self):
        self.has_it("part c 3 3 3 z\ncut 1 1 1 1 1 1\n", "### ### ###", "### ### ###", "### ### ###")
        # Four cells of eight, no two beside one another: all is dark from each side.
        four = "part c 2 2 2 z\ncut 1 0 0 1 1 1\ncut 0 1 0 1 1 1\ncut 0 0 1 1 1 1\ncut 1 1 1 1 1 1\n"
        self.has_it(four, "## ##", "## ##", "## ##")
        self.differs(four + "cut 0 0 0 1 1 1\n", "## ##", "## ##", "## ##", 1, 0, 0)

    def test_cuts_that_cut_nothing_more(self):
        self.has_it(BLOCK + "cut 1 0 2 1 2 2\n" * 3 + "cut 1 1 3 1 1 1\n", "#.# #.# ### ###", RIGHT, TOP)

    def test_a_drawing_of_nothing_has_no_part(self):
        self.differs("part a 2 1 1 x\n", "##", "#", "#.", 3, 1, 0)
        self.differs("part a 2 1 1 x\ncut 1 0 0 1 1 1\n", "##", "#", "#.", 1, 1, 0)
        self.differs("part a 2 1 1 x\ncut 0 0 0 1 1 1\n", "##", "#", "#.", 1, 0, 0)
        self.differs("part a 2 1 1 x\ncut 0 0 0 2 1 1\n", "##", "#", "#.", 1, 0, 0)


class SizesThatDiffer(HasCase):
    def test_one_alone(self):
        for sizes in ("2 2 4", "4 2 4", "16 2 4", "3 1 4", "3 3 4", "3 16 4", "3 2 3", "3 2 5", "3 2 16"):
            self.answers(f"part a {sizes} x\n", FULL, [0, 0, 0, 0])

    def test_several(self):
        for sizes in ("1 1 1", "2 3 4", "4 2 3", "3 4 2", "4 3 2", "2 4 3", "6 2 2", "3 1 8", "1 2 12", "16 16 16"):
            self.answers(f"part a {sizes} x\n", FULL, [0, 0, 0, 0])

    def test_each_pair_of_sizes(self):
        drawings = {1: text_of("#", "#", "#")}
        for size in range(2, 17):
            drawings[size] = of(data(f"part a {size} {17 - size} {size} x\n"))[1:]
        for size in range(2, 17):
            for other in range(2, 17):
                part = data(f"part b {other} {17 - other} {other} y\n")
                self.assertEqual(has(part, drawings[size]), [1] if size == other else [0, 0, 0, 0])

    def test_sixteen_and_fifteen(self):
        self.differs("part a 15 1 1 x\n", "#" * 16, "#", "#" * 16, 0, 0, 0)
        self.differs("part a 16 1 1 x\n", "#" * 15, "#", "#" * 15, 0, 0, 0)
        self.differs("part a 1 15 1 x\n", "#", "#" * 16, every("#", 16), 0, 0, 0)
        self.differs("part a 1 1 15 x\n", every("#", 16), every("#", 16), "#", 0, 0, 0)

    def test_views_that_differ_besides(self):
        self.differs("part a 3 2 3 x\n", "... ### ### ###", ".. ## ## ##", "... ###", 0, 0, 0)
        self.differs("part a 3 2 3 x\ncut 0 0 0 3 2 3\n", FRONT, RIGHT, TOP, 0, 0, 0)
        self.differs("part a 3 3 4 x\ncut 0 0 0 1 1 1\n", "..# ### ### ###", RIGHT, "#.# ###", 0, 0, 0)
        self.differs("part a 2 2 4 x\n", "... ... ... ...", ".. .. .. ..", "... ...", 0, 0, 0)


class FrontViewsThatDiffer(HasCase):
    def test_dark_of_the_part_and_light_of_the_drawing(self):
        self.differs(BLOCK, "### #.# ### ###", RIGHT, TOP, 1, 1, 2)
        self.differs(BLOCK, "### ### ### .##", RIGHT, TOP, 1, 0, 0)
        self.differs(BLOCK, "##. ### ### ###", RIGHT, TOP, 1, 2, 3)

    def test_light_of_the_part_and_dark_of_the_drawing(self):
        self.differs(BLOCK + "cut 1 0 2 1 2 1\n", FRONT, RIGHT, TOP, 1, 1, 2)
        self.differs(BLOCK + "cut 0 0 0 1 2 1\n", FRONT, RIGHT, TOP, 1, 0, 0)
        self.differs(BLOCK + "cut 2 0 3 1 2 1\n", FRONT, RIGHT, TOP, 1, 2, 3)

    def test_several_places(self):
        # By the second number first: (2, 1) goes before (0, 3).
        self.differs(BLOCK, ".## ### ##. ###", RIGHT, TOP, 1, 2, 1)
        self.differs(BLOCK + "cut 0 0 3 1 2 1\ncut 2 0 1 1 2 1\n", FRONT, RIGHT, TOP, 1, 2, 1)
        self.differs(BLOCK, "... ... ##. ###", RIGHT, TOP, 1, 2, 1)
        # Of one row by the first number.
        self.differs(BLOCK, "### ### ..# ###", RIGHT, TOP, 1, 0, 1)
        self.differs(BLOCK, "### #.. ### ###", RIGHT, TOP, 1, 1, 2)
        self.differs(BLOCK, "### .#. ### ###", RIGHT, TOP, 1, 0, 2)

    def test_both_ways(self):
        # The part alone is light at (1, 2), the drawing alone at the other place.
        self.differs(BLOCK + "cut 1 0 2 1 2 1\n", "### ### ##. ###", RIGHT, TOP, 1, 2, 1)
        self.differs(BLOCK + "cut 1 0 2 1 2 1\n", ".## ### ### ###", RIGHT, TOP, 1, 1, 2)
        self.differs(BLOCK + "cut 1 0 2 1 2 1\n", "### ##. ### ###", RIGHT, TOP, 1, 1, 2)
        self.differs(BLOCK + "cut 1 0 2 1 2 1\n", "### .## ### ###", RIGHT, TOP, 1, 0, 2)

    def test_a_place_light_of_both(self):
        self.differs(BLOCK + "cut 1 0 0 1 2 3\n", "##. #.# #.# #.#", RIGHT, TOP, 1, 2, 3)


class RightViewsThatDiffer(HasCase):
    def test_dark_of_the_part_and_light_of_the_drawing(self):
        self.differs(BLOCK, FRONT, "## #. ## ##", TOP, 2, 1, 2)
        self.differs(BLOCK, FRONT, "## ## ## .#", TOP, 2, 0, 0)
        self.differs(BLOCK, FRONT, "#. ## ## ##", TOP, 2, 1, 3)

    def test_light_of_the_part_and_dark_of_the_drawing(self):
        self.differs(BLOCK + "cut 0 1 2 3 1 1\n", FRONT, RIGHT, TOP, 2, 1, 2)
        self.differs(BLOCK + "cut 0 0 0 3 1 1\n", FRONT, RIGHT, TOP, 2, 0, 0)
        self.differs(BLOCK + "cut 0 1 3 3 1 1\n", FRONT, RIGHT, TOP, 2, 1, 3)

    def test_several_places(self):
        self.differs(BLOCK, FRONT, ".# ## #. ##", TOP, 2, 1, 1)
        self.differs(BLOCK + "cut 0 0 3 3 1 1\ncut 0 1 1 3 1 1\n", FRONT, RIGHT, TOP, 2, 1, 1)
        self.differs(BLOCK, FRONT, ".. ## ## ##", TOP, 2, 0, 3)
        self.differs("part b 2 4 3 x\n", "## ## ##", "#### #.#. .###", "## ## ## ##", 2, 0, 0)
        self.differs("part b 2 4 3 x\n", "## ## ##", "#### #.#. ####", "## ## ## ##", 2, 1, 1)

    def test_both_ways(self):
        self.differs(BLOCK + "cut 0 1 2 3 1 1\n", FRONT, "## ## .# ##", TOP, 2, 0, 1)
        self.differs(BLOCK + "cut 0 1 2 3 1 1\n", FRONT, ".# ## ## ##", TOP, 2, 1, 2)
        self.differs(BLOCK + "cut 0 1 2 3 1 1\n", FRONT, "## .# ## ##", TOP, 2, 0, 2)


class TopViewsThatDiffer(HasCase):
    def test_dark_of_the_part_and_light_of_the_drawing(self):
        self.differs(BLOCK, FRONT, RIGHT, "### ##.", 3, 2, 0)
        self.differs(BLOCK, FRONT, RIGHT, "### .##", 3, 0, 0)
        self.differs(BLOCK, FRONT, RIGHT, "##. ###", 3, 2, 1)

    def test_light_of_the_part_and_dark_of_the_drawing(self):
        self.differs(BLOCK + "cut 2 0 0 1 1 4\n", FRONT, RIGHT, TOP, 3, 2, 0)
        self.differs(BLOCK + "cut 0 0 0 1 1 4\n", FRONT, RIGHT, TOP, 3, 0, 0)
        self.differs(BLOCK + "cut 2 1 0 1 1 4\n", FRONT, RIGHT, TOP, 3, 2, 1)

    def test_several_places(self):
        self.differs(BLOCK, FRONT, RIGHT, ".## ##.", 3, 2, 0)
        self.differs(BLOCK + "cut 0 1 0 1 1 4\ncut 2 0 0 1 1 4\n", FRONT, RIGHT, TOP, 3, 2, 0)
        self.differs(BLOCK, FRONT, RIGHT, "... ###", 3, 0, 1)
        self.differs("part b 4 3 2 x\n", "#### ####", "### ###", ".### #.#. ####", 3, 1, 1)

    def test_both_ways(self):
        self.differs(BLOCK + "cut 2 0 0 1 1 4\n", FRONT, RIGHT, ".## ###", 3, 2, 0)
        self.differs(BLOCK + "cut 0 1 0 1 1 4\n", FRONT, RIGHT, "### ##.", 3, 2, 0)
        self.differs(BLOCK + "cut 2 0 0 1 1 4\n", FRONT, RIGHT, "### #.#", 3, 1, 0)


class SeveralViewsThatDiffer(HasCase):
    def test_the_first_view_is_told(self):
        self.differs(BLOCK, "##. ### ### ###", "## ## ## .#", "### .##", 1, 2, 3)
        self.differs(BLOCK, "##. ### ### ###", "## ## ## .#", TOP, 1, 2, 3)
        self.differs(BLOCK, "##. ### ### ###", RIGHT, "### .##", 1, 2, 3)
        self.differs(BLOCK, FRONT, "#. ## ## ##", "### .##", 2, 1, 3)
        self.differs(BLOCK, FRONT, ".# ## ## ##", "... ...", 2, 0, 3)

    def test_a_part_that_differs_in_several(self):
        # Without z 1 the front view and the right view have a light row; the top view has none.
        self.differs(BLOCK + "cut 0 0 1 3 2 1\n", FRONT, RIGHT, TOP, 1, 0, 1)
        self.differs(BLOCK + "cut 0 0 1 3 2 1\n", "### ### ... ###", RIGHT, TOP, 2, 0, 1)
        self.has_it(BLOCK + "cut 0 0 1 3 2 1\n", "### ### ... ###", "## ## .. ##", TOP)
        # Without x 1 the front view and the top view have light places, without y 1 the other two.
        self.differs(BLOCK + "cut 1 0 0 1 2 4\n", FRONT, RIGHT, TOP, 1, 1, 0)
        self.differs(BLOCK + "cut 1 0 0 1 2 4\n", every("#.#", 4), RIGHT, TOP, 3, 1, 0)
        self.has_it(BLOCK + "cut 1 0 0 1 2 4\n", every("#.#", 4), RIGHT, "#.# #.#")
        self.differs(BLOCK + "cut 0 1 0 3 1 4\n", FRONT, RIGHT, TOP, 2, 1, 0)
        self.differs(BLOCK + "cut 0 1 0 3 1 4\n", FRONT, every("#.", 4), TOP, 3, 0, 1)
        self.has_it(BLOCK + "cut 0 1 0 3 1 4\n", FRONT, every("#.", 4), "... ###")

    def test_views_of_another_side(self):
        # A corner of the block of 2 each way is off; the drawing has it at another one.
        self.differs("part a 2 2 2 x\ncut 1 0 1 1 2 1\n", "## #.", "## ##", "## ##", 1, 1, 0)
        self.differs("part a 2 2 2 x\ncut 1 0 1 1 2 1\n", ".# ##", "## ##", "## ##", 1, 0, 1)
        self.differs("part a 2 2 2 x\ncut 1 0 1 1 2 1\n", "## ##", "#. ##", "## ##", 1, 1, 1)
        self.has_it("part a 2 2 2 x\ncut 1 0 1 1 2 1\n", "#. ##", "## ##", "## ##")


class EdgesOfHas(HasCase):
    def test_one_each_way(self):
        whole = "part a 1 1 1 x\n"
        gone = whole + "cut 0 0 0 1 1 1\n"
        self.has_it(whole, "#", "#", "#")
        self.has_it(gone, ".", ".", ".")
        for front, right, top, of_whole, of_gone in (
                ("#", "#", ".", 3, 1), ("#", ".", "#", 2, 1), (".", "#", "#", 1, 2), ("#", ".", ".", 2, 1),
                (".", "#", ".", 1, 2), (".", ".", "#", 1, 3)):
            self.differs(whole, front, right, top, of_whole, 0, 0)
            self.differs(gone, front, right, top, of_gone, 0, 0)
        self.differs(whole, ".", ".", ".", 1, 0, 0)
        self.differs(gone, "#", "#", "#", 1, 0, 0)

    def test_sixteen_one_way(self):
        row = "#" * 16
        most = "#" * 15 + "."
        column = every("#", 16)
        top_light = ". " + every("#", 15)
        self.has_it("part a 16 1 1 x\n", row, "#", row)
        self.differs("part a 16 1 1 x\n", most, "#", row, 1, 15, 0)
        self.differs("part a 16 1 1 x\n", row, ".", row, 2, 0, 0)
        self.differs("part a 16 1 1 x\n", row, "#", most, 3, 15, 0)
        self.has_it("part a 1 16 1 x\n", "#", row, column)
        self.differs("part a 1 16 1 x\n", ".", row, column, 1, 0, 0)
        self.differs("part a 1 16 1 x\n", "#", most, column, 2, 15, 0)
        self.differs("part a 1 16 1 x\n", "#", row, top_light, 3, 0, 15)
        self.has_it("part a 1 1 16 x\n", column, column, "#")
        self.differs("part a 1 1 16 x\n", top_light, column, "#", 1, 0, 15)
        self.differs("part a 1 1 16 x\n", column, top_light, "#", 2, 0, 15)
        self.differs("part a 1 1 16 x\n", column, column, ".", 3, 0, 0)

    def test_one_one_way(self):
        dark = every("#" * 16, 16)
        self.has_it("part a 1 16 16 x\n", every("#", 16), dark, every("#", 16))
        self.has_it("part a 16 1 16 x\n", dark, every("#", 16), "#" * 16)
        self.has_it("part a 16 16 1 x\n", "#" * 16, "#" * 16, dark)

    def test_sixteen_each_way(self):
        whole = "part a 16 16 16 z\n"
        dark = every("#" * 16, 16)
        last = "#" * 15 + ". " + every("#" * 16, 15)
        first = every("#" * 16, 15) + " ." + "#" * 15
        self.has_it(whole, dark, dark, dark)
        self.differs(whole, first, first, first, 1, 0, 0)
        self.differs(whole, last, first, first, 1, 15, 15)
        self.differs(whole, dark, last, first, 2, 15, 15)
        self.differs(whole, dark, dark, last, 3, 15, 15)
        self.differs(whole + "cut 15 0 15 1 16 1\n", dark, dark, dark, 1, 15, 15)
        self.differs(whole + "cut 0 15 15 16 1 1\n", dark, dark, dark, 2, 15, 15)
        self.differs(whole + "cut 15 15 0 1 1 16\n", dark, dark, dark, 3, 15, 15)
        self.has_it(whole + "cut 15 0 15 1 16 1\n", last, dark, dark)
        self.has_it(whole + "cut 0 15 15 16 1 1\n", dark, last, dark)
        self.has_it(whole + "cut 15 15 0 1 1 16\n", dark, dark, last)

    def test_the_first_place_of_each_view(self):
        part = "part b 4 3 2 x\n"
        self.differs(part, "#### .###", "### ###", "#### #### ####", 1, 0, 0)
        self.differs(part, "#### ####", "### .##", "#### #### ####", 2, 0, 0)
        self.differs(part, "#### ####", "### ###", "#### #### .###", 3, 0, 0)
        self.differs(part, ".... ....", "... ...", ".... .... ....", 1, 0, 0)
        self.differs(part, "#### ####", "... ...", ".... .... ....", 2, 0, 0)
        self.differs(part, "#### ####", "### ###", ".... .... ....", 3, 0, 0)

    def test_the_last_place_of_each_view(self):
        part = "part b 4 3 2 x\n"
        self.differs(part, "###. ####", "### ###", "#### #### ####", 1, 3, 1)
        self.differs(part, "#### ####", "##. ###", "#### #### ####", 2, 2, 1)
        self.differs(part, "#### ####", "### ###", "###. #### ####", 3, 3, 2)

    def test_each_place_by_itself(self):
        """One sign of the drawing is another one, so that place is the first difference, and the last."""
        for w, d, h in ((3, 2, 4), (4, 3, 2), (2, 4, 3)):
            part = f"part a {w} {d} {h} x\n"
            for kind, long, many in ((1, w, h), (2, d, h), (3, w, d)):
                for at in range(many):
                    for along in range(long):
                        views = [every("#" * w, h), every("#" * d, h), every("#" * w, d)]
                        rows = ["#" * long] * many
                        rows[many - 1 - at] = "#" * along + "." + "#" * (long - along - 1)
                        views[kind - 1] = " ".join(rows)
                        self.differs(part, *views, kind, along, at)

    def test_a_part_without_a_cell(self):
        gone = BLOCK + "cut 0 0 0 3 2 4\n"
        light = ("... ... ... ...", ".. .. .. ..", "... ...")
        self.has_it(gone, *light)
        self.differs(gone, FRONT, RIGHT, TOP, 1, 0, 0)
        self.differs(gone, "..# ... ... ...", light[1], light[2], 1, 2, 3)
        self.differs(gone, light[0], ".. .# .. ..", light[2], 2, 1, 2)
        self.differs(gone, light[0], light[1], ".#. ...", 3, 1, 1)
        self.differs(BLOCK, *light, 1, 0, 0)

    def test_sixty_four_cuts(self):
        places = [f"cut {x} {y} {z} 1 1 1\n" for z in range(4) for y in range(4) for x in range(4)]
        light = every("....", 4)
        last = "...# " + every("....", 3)
        part = "part a 4 4 4 x\n" + "".join(places[:63])
        self.has_it(part, last, last, last)
        self.differs(part, light, light, light, 1, 3, 3)
        self.has_it(part + places[63], light, light, light)
        self.differs(part + places[63], last, last, last, 1, 3, 3)
        self.differs(part + places[63], light, last, last, 2, 3, 3)
        self.differs(part + places[63], light, light, last, 3, 3, 3)
        self.has_it(part + places[0], last, last, last)
        self.answers(part + places[63] + places[0], text_of(light, light, light), [-6, 65, 2])


class Refusals(HasCase):
    def test_parts_at_fault(self):
        for part, refusal in refused_parts():
            self.answers(part, FULL, refusal)
            self.answers(part, text_of("#", "#", "#"), refusal)

    def test_each_reason_and_its_line(self):
        self.answers(BLOCK + "cut 0 0 0 1 1 1\ncut 0 0 1 1 1\n", FULL, [-6, 2, 1])
        self.answers(BLOCK + "cut 0 0 0 1 1 1\n" * 64 + "cut 0 0 0 1 1 1\n", FULL, [-6, 65, 2])
        self.answers(BLOCK + "cut 0 0 0 1 1 1\n" + BLOCK, FULL, [-6, 2, 3])
        self.answers(BLOCK + "cut 0 0 0 1 1 1\n" * 3 + "cut 2 0 0 2 1 1\n", FULL, [-6, 4, 4])

    def test_drawings_at_fault(self):
        for drawing, refusal in refused_drawings():
            if refusal[0] == -6:
                refusal = refusal + [99]
            for part in (BLOCK, "part a 1 1 1 z\ncut 0 0 0 1 1 1\n"):
                self.answers(part, drawing, refusal)

    def test_both_at_fault(self):
        """What's told of the part stands ahead, but of the two refusals -2 stands ahead of all."""
        for part, of_part in refused_parts():
            for drawing, of_drawing in refused_drawings():
                expected = of_part
                if of_drawing == [-2]:
                    expected = [-2]
                self.answers(part, drawing, expected)

    def test_both_at_fault_by_hand(self):
        self.answers("", "", [-6, 0, 3])
        self.answers("x\n", "x\n", [-6, 0, 1])
        self.answers(FULL, BLOCK, [-6, 0, 1])
        self.answers(BLOCK + "cut 3 0 0 1 1 1\n", "front\n", [-6, 1, 4])
        self.answers(BLOCK + BLOCK, "", [-6, 1, 3])
        self.answers(BLOCK, BLOCK, [-6, 0, 99])
        self.answers(BLOCK, "", [-6, 0, 99])
        self.answers(BLOCK, FULL + "\n", [-6, 13, 99])

    def test_a_fault_goes_before_a_difference(self):
        self.answers("part a 1 1 1 x\n", FULL[:-1], [-6, 12, 99])
        self.answers("part a 1 1 1 x\ncut 0 1 0 1 1 1\n", FULL, [-6, 1, 4])
        # The lines 6 to 8 are rows of the right view; at 9 stands `top` in the place of a fourth.
        self.answers(BLOCK, text_of("... ### ### ###", ".. ## ##", "###"), [-6, 9, 99])

    def test_texts_that_are_too_long(self):
        parts = (BLOCK, "", "x\n", "cut 0 0 0 1 1 1\n", BLOCK + "cut 3 0 0 1 1 1\n", "a" * 16384)
        drawings = (FULL, "", "front\n", text_of("##", "#", "#"), FULL + "\n" * (16384 - len(FULL)))
        for long in ("a" * 16385, "\n" * 16385, "\n" * 20000):
            for part in parts:
                self.answers(part, long, [-2])
                self.answers(part, FULL + long, [-2])
            for drawing in drawings:
                self.answers(long, drawing, [-2])
                self.answers(BLOCK + long, drawing, [-2])
            self.answers(long, long, [-2])

    def test_texts_of_16384_bytes_are_read(self):
        self.assertEqual(len(FULL), 52)
        self.assertEqual(len(BLOCK), 15)
        self.answers(BLOCK, FULL + "\n" * 16332, [-6, 13, 99])
        self.answers(BLOCK, FULL + "\n" * 16333, [-2])
        self.answers(BLOCK + "\n" * 16369, FULL, [-6, 1, 1])
        self.answers(BLOCK + "\n" * 16370, FULL, [-2])
        # Together they may have more.
        self.answers(BLOCK + "\n" * 16369, FULL + "\n" * 16332, [-6, 1, 1])
        far = "part a 3 2 4 x\ncut " + "9" * (16384 - 30) + " 0 0 1 1 1\n"
        self.assertEqual(len(far), 16384)
        self.answers(far, FULL, [-6, 1, 4])
        self.answers(far.replace("cut ", "cut 9"), FULL, [-2])


class EachCallByItself(unittest.TestCase):
    calls = ((BLOCK, FULL), (BLOCK + "cut 1 0 2 1 2 1\n", FULL), ("part a 1 1 1 x\n", FULL), ("", FULL), (BLOCK, ""),
             ("a" * 16385, FULL), (BLOCK, "a" * 16385))
    answers = [[1], [0, 1, 1, 2], [0, 0, 0, 0], [-6, 0, 3], [-6, 0, 99], [-2], [-2]]

    def test_what_is_handed_in_stays(self):
        for part, drawing in self.calls:
            given = Untouched(data(part))
            shown = Untouched(data(drawing))
            has(given, shown)
            self.assertEqual(list(given), data(part))
            self.assertEqual(list(shown), data(drawing))

    def test_one_list_as_both(self):
        for text, expected in ((BLOCK, [-6, 0, 99]), (FULL, [-6, 0, 1]), ("", [-6, 0, 3]), ("a" * 16385, [-2])):
            both = Untouched(data(text))
            self.assertEqual(has(both, both), expected)
            self.assertEqual(list(both), data(text))

    def test_a_second_call_answers_as_the_first(self):
        given = [(data(part), data(drawing)) for part, drawing in self.calls]
        first = [has(part, drawing) for part, drawing in given]
        self.assertEqual(first, self.answers)
        self.assertEqual([has(part, drawing) for part, drawing in given], self.answers)
        for answer in first:
            answer.append(7)
            answer[0] = 7
        self.assertEqual([has(part, drawing) for part, drawing in given[::-1]], self.answers[::-1])


if __name__ == "__main__":
    unittest.main()
