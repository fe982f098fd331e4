"""judge(drawing): the answers are worked out from the document by hand."""

import unittest

from tests.helping import Untouched, data, text_of
from threeviews.drawings import judge, of
from threeviews.texts import read_drawing, write_drawing


# w 3, d 2, h 4; the lines: front 0, rows 1 to 4, right 5, rows 6 to 9, top 10, rows 11 and 12.
GOOD = text_of("#.# #.# ### ###", "## #. ## ##", "### ##.")
SMALLEST = text_of("#", "#", "#")
ROW_16 = "#" * 16
LARGEST = text_of(" ".join([ROW_16] * 16), " ".join([ROW_16] * 16), " ".join([ROW_16] * 16))


class JudgeCase(unittest.TestCase):
    def answers(self, text, expected):
        with self.subTest(text=text[:200]):
            answer = judge(data(text))
            self.assertEqual(answer, expected)
            self.assertEqual({type(number) for number in answer}, {int})

    def is_good(self, text):
        self.answers(text, [0])

    def refuses(self, text, line):
        self.answers(text, [-6, line])


class GoodDrawings(JudgeCase):
    def test_one_cell_byte_for_byte(self):
        self.assertEqual(judge([
            102, 114, 111, 110, 116, 10, 35, 10,
            114, 105, 103, 104, 116, 10, 46, 10,
            116, 111, 112, 10, 35, 10,
        ]), [0])

    def test_sizes_that_differ(self):
        self.is_good(GOOD)
        self.is_good(text_of("#### ##..", "#.# ###", ".... #### #..#"))
        self.is_good(text_of("#. ## ..", "#### .... #..#", "## .. .# #."))

    def test_drawn_of_nothing(self):
        self.is_good(text_of(".", ".", "."))
        self.is_good(text_of("#", "#", "."))
        self.is_good(text_of("#", ".", "#"))
        self.is_good(text_of(".", "#", "#"))
        self.is_good(text_of("#. ##", ".. ..", ".# .."))
        self.is_good(text_of("... ...", "## ##", "### ###"))

    def test_one_each_way(self):
        self.is_good(SMALLEST)
        self.is_good(text_of("##", "#", "##"))
        self.is_good(text_of("#", "##", "# #"))
        self.is_good(text_of("# #", "# #", "#"))

    def test_sixteen_each_way(self):
        self.is_good(LARGEST)
        self.is_good(LARGEST.replace("#", "."))

    def test_sixteen_one_way(self):
        column = " ".join(["#"] * 16)
        self.is_good(text_of(ROW_16, "#", ROW_16))
        self.is_good(text_of("#", ROW_16, column))
        self.is_good(text_of(column, column, "#"))

    def test_what_of_answers(self):
        for part in ("part a 1 1 1 x\n", "part a 3 2 4 y\n", "part a 16 16 16 z\n", "part a 16 1 2 z\n",
                     "part a 1 16 3 x\n", "part a 5 4 16 x\ncut 1 2 3 4 2 1\ncut 0 0 15 5 4 1\n",
                     "part a 2 3 4 x\ncut 0 0 0 2 3 4\n"):
            answer = of(data(part))
            self.assertEqual(judge(answer[1:]), [0], part)

    def test_what_is_read_is_what_is_written(self):
        for text in (GOOD, SMALLEST, LARGEST, text_of("#. ##", ".. .#", ".# .."), text_of("##. .#.", "# .", "#..")):
            self.assertEqual(write_drawing(read_drawing(data(text))), data(text))


class TextsThatEndTooEarly(JudgeCase):
    def test_no_bytes(self):
        self.assertEqual(judge([]), [-6, 0])

    def test_behind_each_line(self):
        for text in (GOOD, SMALLEST, LARGEST):
            lines = text.splitlines(keepends=True)
            for many in range(len(lines)):
                self.refuses("".join(lines[:many]), many)

    def test_by_hand(self):
        self.refuses("front\n", 1)
        self.refuses("front\n#\n", 2)
        self.refuses("front\n#\nright\n", 3)
        self.refuses("front\n#\nright\n#\n", 4)
        self.refuses("front\n#\nright\n#\ntop\n", 5)
        self.is_good("front\n#\nright\n#\ntop\n#\n")
        self.refuses("front\n" + "#\n" * 16, 17)

    def test_each_line_without_its_line_feed(self):
        for text in (GOOD, SMALLEST, LARGEST):
            lines = text.splitlines(keepends=True)
            for many in range(len(lines)):
                self.refuses("".join(lines[:many + 1])[:-1], many)

    def test_a_line_cut_short(self):
        self.refuses("f", 0)
        self.refuses("front\n##\n#", 2)
        self.refuses("front\n##\nrig", 2)
        self.refuses("front\n#\nright\n#\nto", 4)


class WrongWords(JudgeCase):
    def test_other_words(self):
        for word in ("", "Front", "FRONT", "fron", "fronts", "ront", " front", "front ", "front\r", "front#", "right",
                     "top", "#", "part a 1 1 1 x", "\x00", "f\xf2ont"):
            self.refuses(word + "\n#\nright\n#\ntop\n#\n", 0)
        for word in ("", "Right", "righ", "rights", " right", "right ", "right\r", "front", "top", "right.", "\xff"):
            self.refuses(f"front\n#\n{word}\n#\ntop\n#\n", 2)
        for word in ("", "Top", "to", "tops", " top", "top ", "top\r", "front", "right", "#top", "\xff"):
            self.refuses(f"front\n#\nright\n#\n{word}\n#\n", 4)

    def test_a_word_where_a_row_stands(self):
        for word in ("front", "right", "top"):
            self.refuses(f"front\n{word}\nright\n#\ntop\n#\n", 1)
            self.refuses(f"front\n#\nright\n{word}\ntop\n#\n", 3)
            self.refuses(f"front\n#\nright\n#\ntop\n{word}\n", 5)
        for word in ("front", "top"):
            self.refuses(f"front\n#####\n{word}\nright\n", 2)
        self.refuses("front\n#####\nright\n#####\nfront\n", 4)

    def test_a_word_left_out(self):
        self.refuses("#\nright\n#\ntop\n#\n", 0)
        self.refuses("front\n#\n#\ntop\n#\n", 3)
        self.refuses("front\n#\nright\n#\n#\n", 4)

    def test_a_view_without_rows(self):
        self.refuses("front\nright\ntop\n", 1)
        self.refuses("front\nright\n#\ntop\n#\n", 1)
        self.refuses("front\n#\nright\ntop\n#\n", 3)

    def test_views_in_another_order(self):
        self.refuses("front\n#\ntop\n#\nright\n#\n", 2)
        self.refuses("right\n#\nfront\n#\ntop\n#\n", 0)


class WrongRows(JudgeCase):
    def test_lengths_of_a_first_row(self):
        for long in range(1, 17):
            row = "#" * long
            self.is_good(text_of(row, "#", row))
            self.is_good(text_of("#", row, " ".join(["#"] * long)))

    def test_a_row_of_17_signs(self):
        row = "#" * 17
        self.refuses(text_of(row, "#", row), 1)
        self.refuses(text_of("#", row, " ".join(["#"] * 17)), 3)
        self.refuses(text_of(ROW_16 + " " + row, "# #", ROW_16), 2)
        self.refuses(text_of("# #", ROW_16 + " " + row, " ".join(["#"] * 16)), 5)
        self.refuses(text_of(ROW_16, "#", row), 5)
        self.refuses(text_of("#" * 400, "#", "#"), 1)

    def test_a_row_too_long_or_too_short(self):
        rows = GOOD.splitlines()
        # The first row of the front view and of the right view tell w and d, so the others are at fault.
        for at in (2, 3, 4, 7, 8, 9, 11, 12):
            for row in (rows[at] + "#", rows[at] + ".", rows[at][:-1]):
                self.refuses("".join(line + "\n" for line in rows[:at] + [row] + rows[at + 1:]), at)

    def test_first_rows_too_long_or_too_short(self):
        self.refuses(GOOD.replace("front\n#.#\n", "front\n#.##\n"), 2)
        self.refuses(GOOD.replace("front\n#.#\n", "front\n#.\n"), 2)
        self.refuses(GOOD.replace("right\n##\n", "right\n##.\n"), 7)
        self.refuses(GOOD.replace("right\n##\n", "right\n#\n"), 7)
        self.refuses(text_of("##", "#", "#"), 5)
        self.refuses(text_of("#", "#", "##"), 5)

    def test_empty_rows(self):
        rows = GOOD.splitlines()
        for at in (1, 2, 3, 4, 6, 7, 8, 9, 11, 12):
            self.refuses("".join(line + "\n" for line in rows[:at] + [""] + rows[at + 1:]), at)
            self.refuses("".join(line + "\n" for line in rows[:at] + [""] + rows[at:]), at)
        self.refuses("front\n\nright\n\ntop\n\n", 1)
        self.refuses("front\n#\nright\n\ntop\n", 3)

    def test_other_signs(self):
        for sign in [chr(byte) for byte in range(256) if chr(byte) not in "#.\n"]:
            self.refuses(f"front\n{sign}\nright\n#\ntop\n#\n", 1)
            self.refuses(f"front\n#\n{sign}\nright\n#\n", 2)
            self.refuses(f"front\n#\nright\n{sign}\ntop\n#\n", 3)
            self.refuses(f"front\n#\nright\n#\ntop\n{sign}\n", 5)
            self.refuses(f"front\n#{sign}\nright\n", 1)
            self.refuses(f"front\n#\nright\n#\ntop\n#{sign}\n", 5)

    def test_blanks_round_rows(self):
        for row in (" #", "# ", "# #"):
            self.refuses(f"front\n{row}\nright\n#\ntop\n#\n", 1)
            self.refuses(f"front\n#\nright\n{row}\ntop\n#\n", 3)

    def test_each_byte_that_is_another(self):
        good = data(GOOD)
        lines = []
        for at, number in enumerate(good):
            lines.append(GOOD[:at].count("\n"))
        for at in range(len(good)):
            for wrong in (good[at] + 128, 255, 0, 63):
                self.assertEqual(judge(good[:at] + [wrong] + good[at + 1:]), [-6, lines[at]], at)


class RowsTooFewOrTooMany(JudgeCase):
    def test_the_front_view(self):
        self.refuses(text_of("## ## ##", "# #", "##"), 7)
        self.refuses(text_of("##", "# #", "##"), 4)

    def test_sixteen_rows_of_the_front_view(self):
        rows = "front\n" + "#\n" * 16
        self.is_good(rows + "right\n" + "#\n" * 16 + "top\n#\n")
        for line in ("#", ".", "", "##", "top", "front", "\xff"):
            self.refuses(rows + line + "\nright\n" + "#\n" * 16 + "top\n#\n", 17)
        self.refuses(rows + "#\n" + "right\n" + "#\n" * 17 + "top\n#\n", 17)
        self.refuses(rows + "#\n" * 3, 17)
        self.refuses(rows + "right", 17)

    def test_the_right_view(self):
        self.refuses(text_of("## ##", "#", "##"), 5)
        self.refuses(text_of("## ##", "# # #", "##"), 6)
        sixteen = " ".join(["#"] * 16)
        self.refuses(text_of(sixteen, sixteen + " #", "#"), 34)
        self.refuses(text_of(sixteen, " ".join(["#"] * 15), "#"), 33)

    def test_the_top_view(self):
        self.refuses(text_of("##", "###", "## ##"), 7)
        self.refuses(text_of("##", "###", "## ## ## ##"), 8)
        self.refuses(text_of("##", "###", ""), 5)
        self.refuses(LARGEST + ROW_16 + "\n", 51)

    def test_one_line_more(self):
        for line in ("\n", "###\n", "#\n", " \n", "front\n", "top\n", "\n\n", "\xff\n", "#", " ", "\r", "###", GOOD):
            self.refuses(GOOD + line, 13)
            self.refuses(SMALLEST + line, 6)

    def test_a_line_ahead(self):
        self.refuses("\n" + GOOD, 0)
        self.refuses("\xef\xbb\xbf" + GOOD, 0)

    def test_lines_that_end_otherwise(self):
        self.refuses(GOOD.replace("\n", "\r\n"), 0)
        self.refuses(GOOD.replace("\n", "\r"), 0)
        self.refuses(GOOD.replace("#.#\n", "#.#\r\n"), 1)


class SeveralFaults(JudgeCase):
    def test_the_first_is_told(self):
        self.refuses("Front\n\nright\n", 0)
        self.refuses("front\n#\n##\nwrong\n", 2)
        self.refuses("front\n#\nright\n##\n#\n", 4)
        self.refuses("front\n#\nRight\n#\nTop\n#\n#", 2)
        self.refuses("front\n#\nright\n#\nTop\n#\n\n", 4)
        self.refuses("front\n#\nright\n#\ntop\n##\n\n", 5)
        self.refuses("front\n#x\nright", 1)
        self.refuses("front\n## \n", 1)
        self.refuses(GOOD.replace("#.#\n###", "#.\n###").replace("top", "pot"), 2)


class LongTexts(JudgeCase):
    def test_a_text_of_16384_bytes_is_read(self):
        self.assertEqual(len(SMALLEST), 22)
        self.refuses(SMALLEST + "\n" * 16362, 6)
        self.refuses(SMALLEST + "#" * 16362, 6)
        self.refuses("#" * 16384, 0)
        self.refuses("\n" * 16384, 0)
        self.refuses("front\n" + "#" * 16378, 1)
        self.refuses("front\n" + "#\n" * 8189, 17)

    def test_one_byte_more_is_refused(self):
        for text in (SMALLEST + "\n" * 16363, "#" * 16385, "\n" * 16385, "front\n" + "#" * 16379, "#" * 20000,
                     "\xff" * 16385):
            self.answers(text, [-2])


class EachCallByItself(unittest.TestCase):
    texts = (GOOD, LARGEST, GOOD + "\n", GOOD[:-1], "front\n#\n", "", "#" * 16385)

    def test_what_is_handed_in_stays(self):
        for text in self.texts:
            given = Untouched(data(text))
            judge(given)
            self.assertEqual(list(given), data(text))

    def test_a_second_call_answers_as_the_first(self):
        given = [data(text) for text in self.texts]
        first = [judge(drawing) for drawing in given]
        kept = [list(answer) for answer in first]
        self.assertEqual(kept, [[0], [0], [-6, 13], [-6, 12], [-6, 2], [-6, 0], [-2]])
        self.assertEqual([judge(drawing) for drawing in given], kept)
        for answer in first:
            answer.append(7)
            answer[0] = 7
        self.assertEqual([judge(drawing) for drawing in reversed(given)], list(reversed(kept)))


if __name__ == "__main__":
    unittest.main()
