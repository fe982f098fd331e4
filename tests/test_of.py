"""of(part): the answers are worked out from the document by hand."""

import unittest

from tests.helping import Untouched, data, text_of
from threeviews.drawings import of


class OfCase(unittest.TestCase):
    def draws(self, text, count, front, right, top):
        """The answer is the count, then the views' rows, as they stand in the text.

        The count by hand: 6 for `front`, 6 for `right`, 4 for `top`, each with
        its line feed, and h * (w + 1) + h * (d + 1) + d * (w + 1) for the rows.
        """
        answer = of(data(text))
        self.assertEqual(answer, [count] + data(text_of(front, right, top)))
        self.assertEqual(answer[0], len(answer) - 1)
        self.assertEqual({type(number) for number in answer}, {int})

    def refuses(self, text, line, why):
        with self.subTest(text=text[:200]):
            answer = of(data(text))
            self.assertEqual(answer, [-6, line, why])
            self.assertEqual({type(number) for number in answer}, {int})


class BlocksWithoutCuts(OfCase):
    def test_one_cell_byte_for_byte(self):
        self.assertEqual(of([112, 97, 114, 116, 32, 97, 32, 49, 32, 49, 32, 49, 32, 120, 10]), [
            22,
            102, 114, 111, 110, 116, 10, 35, 10,
            114, 105, 103, 104, 116, 10, 35, 10,
            116, 111, 112, 10, 35, 10,
        ])

    def test_sizes_that_differ(self):
        self.draws("part b 3 2 4 y\n", 52, "### ### ### ###", "## ## ## ##", "### ###")
        self.draws("part b 4 3 2 y\n", 49, "#### ####", "### ###", "#### #### ####")
        self.draws("part b 2 4 3 y\n", 52, "## ## ##", "#### #### ####", "## ## ## ##")

    def test_each_grain_has_the_same_drawing(self):
        for grain in "xyz":
            self.draws(f"part b 2 1 1 {grain}\n", 24, "##", "#", "##")

    def test_sixteen_each_way(self):
        full = " ".join(["#" * 16] * 16)
        self.draws("part b 16 16 16 x\n", 832, full, full, full)

    def test_sixteen_one_way(self):
        column = " ".join(["#"] * 16)
        self.draws("part b 16 1 1 x\n", 52, "#" * 16, "#", "#" * 16)
        self.draws("part b 1 16 1 x\n", 67, "#", "#" * 16, column)
        self.draws("part b 1 1 16 x\n", 82, column, column, "#")

    def test_names(self):
        for name in ("a", "z", "0", "9", "az09", "007", "part", "cut", "x", "abcdefghijkl", "123456789012"):
            self.draws(f"part {name} 1 1 1 z\n", 22, "#", "#", "#")


class BlocksWithCuts(OfCase):
    def test_a_cut_from_front_to_back(self):
        self.draws("part c 3 2 4 z\ncut 1 0 2 1 2 2\n", 52,
                   "#.# #.# ### ###", "## ## ## ##", "### ###")

    def test_a_cut_from_left_to_right(self):
        self.draws("part c 3 2 4 z\ncut 0 1 3 3 1 1\n", 52,
                   "### ### ### ###", "#. ## ## ##", "### ###")

    def test_a_cut_from_below_to_above(self):
        self.draws("part c 3 2 4 z\ncut 2 0 0 1 1 4\n", 52,
                   "### ### ### ###", "## ## ## ##", "### ##.")

    def test_a_cut_that_no_view_shows(self):
        self.draws("part c 3 3 3 z\ncut 1 1 1 1 1 1\n", 52, "### ### ###", "### ### ###", "### ### ###")

    def test_one_cell_left_in_a_corner(self):
        self.draws("part k 3 2 2 x\ncut 0 0 1 3 2 1\ncut 1 0 0 2 2 1\ncut 0 1 0 1 1 1\n", 38,
                   "... #..", ".. #.", "... #..")

    def test_one_cell_left_in_the_far_corner(self):
        self.draws("part k 3 2 2 x\ncut 0 0 0 3 2 1\ncut 0 0 1 2 2 1\ncut 2 0 1 1 1 1\n", 38,
                   "..# ...", ".# ..", "..# ...")

    def test_places_that_only_two_cuts_make_light(self):
        first = "part k 2 2 2 x\ncut 0 0 1 1 1 1\n"
        self.draws(first, 34, "## ##", "## ##", "## ##")
        self.draws(first + "cut 0 1 1 1 1 1\n", 34, ".# ##", "## ##", "## ##")
        self.draws(first + "cut 1 0 1 1 1 1\n", 34, "## ##", ".# ##", "## ##")
        self.draws(first + "cut 0 0 0 1 1 1\n", 34, "## ##", "## ##", "## .#")

    def test_a_stair(self):
        self.draws("part stair 3 2 3 x\ncut 1 0 2 2 2 1\ncut 2 0 1 1 2 1\n", 45,
                   "#.. ##. ###", "## ## ##", "### ###")

    def test_a_cross_of_holes(self):
        self.draws("part c 3 3 3 y\ncut 1 0 1 1 3 1\ncut 0 1 1 3 1 1\ncut 1 1 0 1 1 3\n", 52,
                   "### #.# ###", "### #.# ###", "### #.# ###")

    def test_cuts_that_cut_nothing_more(self):
        once = "part c 3 2 4 z\ncut 1 0 2 1 2 2\n"
        self.draws(once + "cut 1 0 2 1 2 2\n", 52, "#.# #.# ### ###", "## ## ## ##", "### ###")
        self.draws(once + "cut 1 1 3 1 1 1\n", 52, "#.# #.# ### ###", "## ## ## ##", "### ###")

    def test_cuts_that_overlap(self):
        self.draws("part c 4 1 2 z\ncut 0 0 1 2 1 1\ncut 1 0 1 2 1 1\n", 35, "...# ####", "# #", "####")

    def test_all_is_cut_away(self):
        self.draws("part c 2 3 1 z\ncut 0 0 0 2 3 1\n", 32, "..", "...", ".. .. ..")
        self.draws("part c 2 1 1 z\ncut 0 0 0 1 1 1\ncut 1 0 0 1 1 1\n", 24, "..", ".", "..")

    def test_all_is_cut_away_sixteen_each_way(self):
        light = " ".join(["." * 16] * 16)
        self.draws("part c 16 16 16 z\ncut 0 0 0 16 16 16\n", 832, light, light, light)

    def test_the_last_cell_of_sixteen(self):
        dark = "#" * 16
        self.draws("part c 16 1 16 z\ncut 15 0 15 1 1 1\n", 337,
                   " ".join(["#" * 15 + "."] + [dark] * 15), " ".join(["#"] * 16), dark)

    def test_sixty_four_cuts(self):
        self.draws("part c 2 1 1 z\n" + "cut 1 0 0 1 1 1\n" * 64, 24, "#.", "#", "#.")
        self.draws("part c 2 1 1 z\n" + "cut 1 0 0 1 1 1\n" * 63 + "cut 0 0 0 1 1 1\n", 24, "..", ".", "..")


class EndsOfTheBlock(OfCase):
    def test_a_cut_that_ends_at_the_side(self):
        self.draws("part c 3 4 5 x\ncut 2 0 0 1 4 5\n", 77,
                   "##. ##. ##. ##. ##.", "#### #### #### #### ####", "##. ##. ##. ##.")
        self.draws("part c 3 4 5 x\ncut 0 3 0 3 1 5\n", 77,
                   "### ### ### ### ###", "###. ###. ###. ###. ###.", "... ### ### ###")
        self.draws("part c 3 4 5 x\ncut 0 0 4 3 4 1\n", 77,
                   "... ### ### ### ###", ".... #### #### #### ####", "### ### ### ###")

    def test_a_cut_that_goes_beyond_by_one(self):
        for cut in ("3 0 0 1 1 1", "2 0 0 2 1 1", "0 0 0 4 1 1",
                    "0 4 0 1 1 1", "0 3 0 1 2 1", "0 0 0 1 5 1",
                    "0 0 5 1 1 1", "0 0 4 1 1 2", "0 0 0 1 1 6"):
            self.refuses(f"part c 3 4 5 x\ncut {cut}\n", 1, 4)

    def test_a_cut_that_goes_beyond_sixteen(self):
        for cut in ("16 0 0 1 1 1", "0 16 0 1 1 1", "0 0 16 1 1 1",
                    "1 0 0 16 1 1", "0 1 0 1 16 1", "0 0 1 1 1 16"):
            self.refuses(f"part c 16 16 16 x\ncut {cut}\n", 1, 4)

    def test_a_cut_far_beyond(self):
        for far in ("99", "100", "256", "65536", "4294967296", "18446744073709551616"):
            for cut in (f"{far} 0 0 1 1 1", f"0 {far} 0 1 1 1", f"0 0 {far} 1 1 1"):
                self.refuses(f"part c 16 16 16 x\ncut {cut}\n", 1, 4)

    def test_very_long_numbers(self):
        for digits in (4299, 4300, 4301, 16000):
            far = "1" + "0" * (digits - 1)
            for cut in (f"{far} 0 0 1 1 1", f"0 {far} 0 1 1 1", f"0 0 {far} 1 1 1"):
                self.refuses(f"part c 1 1 1 x\ncut {cut}\n", 1, 4)
            for cut in (f"0 0 0 {far} 1 1", f"0 0 0 1 {far} 1", f"0 0 0 1 1 {far}"):
                self.refuses(f"part c 1 1 1 x\ncut {cut}\n", 1, 1)
            self.refuses(f"part c {far} 1 1 x\n", 0, 1)
            self.refuses(f"part c 1 1 1 x\ncut 0{far} 0 0 1 1 1\n", 1, 1)


class LinesNotFormed(OfCase):
    def test_sizes_out_of_their_bounds(self):
        for size in ("0", "17", "18", "99", "100", "116", "257", "65537"):
            for sizes in (f"{size} 1 1", f"1 {size} 1", f"1 1 {size}"):
                self.refuses(f"part a {sizes} x\n", 0, 1)
                self.refuses(f"part a 16 16 16 x\ncut 0 0 0 {sizes}\n", 1, 1)

    def test_words_that_are_no_numbers(self):
        for word in ("00", "01", "016", "+1", "-1", "-0", "1.0", "1.", "0x1", "a", "x", "1a", "a1", "1_0", "#", "?",
                     "\xb2", "\xb9", "1\xb9", "1\t", "1\r"):
            for words in (f"{word} 1 1", f"1 {word} 1", f"1 1 {word}"):
                self.refuses(f"part a {words} x\n", 0, 1)
                self.refuses(f"part a 16 16 16 x\ncut {words} 1 1 1\n", 1, 1)
                self.refuses(f"part a 16 16 16 x\ncut 0 0 0 {words}\n", 1, 1)

    def test_nought_is_a_number(self):
        self.draws("part a 2 1 1 x\ncut 0 0 0 1 1 1\n", 24, ".#", "#", ".#")

    def test_names(self):
        for name in ("", "abcdefghijklm", "1234567890123", "A", "aB", "a-b", "a_b", "a.b", "a#", "a?", "a\tb", "\xe9",
                     "a\xaa", "\xb2", "a\x00", "a\r"):
            self.refuses(f"part {name} 1 1 1 x\n", 0, 1)

    def test_grains(self):
        for grain in ("", "w", "X", "xy", "xx", "0", "x.", "\xf8"):
            self.refuses(f"part a 1 1 1 {grain}\n", 0, 1)

    def test_words_too_few_or_too_many(self):
        for line in ("part", "part a", "part a 1 1 1", "part a 1 1 x", "part 1 1 1 x", "part a 1 1 1 x x",
                     "part a 1 1 1 1 x", "a 1 1 1 x", "x"):
            self.refuses(line + "\n", 0, 1)
        for line in ("cut", "cut 0 0 0 1 1", "cut 0 0 1 1 1", "cut 0 0 0 1 1 1 1", "cut 0 0 0 1 1 1 x", "0 0 0 1 1 1",
                     "cut a 0 0 0 1 1 1"):
            self.refuses("part a 1 1 1 x\n" + line + "\n", 1, 1)
            self.refuses(line + "\n", 0, 1)

    def test_first_words(self):
        for word in ("Part", "PART", "parts", "par", "pa", "block", "front", ""):
            self.refuses(f"{word} a 1 1 1 x\n", 0, 1)
        for word in ("Cut", "CUT", "cuts", "cu", "part", "right", ""):
            self.refuses(f"part a 1 1 1 x\n{word} 0 0 0 1 1 1\n", 1, 1)
        self.refuses("cut a 1 1 1 x\n", 0, 1)

    def test_blanks(self):
        for line in (" part a 1 1 1 x", "part a 1 1 1 x ", "part  a 1 1 1 x", "part a  1 1 1 x", "part a 1 1  1 x",
                     "part a 1 1 1  x", "part\ta 1 1 1 x", "part a 1 1 1\xa0x", "parta 1 1 1 x", " "):
            self.refuses(line + "\n", 0, 1)
        for line in (" cut 0 0 0 1 1 1", "cut 0 0 0 1 1 1 ", "cut  0 0 0 1 1 1", "cut 0 0  0 1 1 1",
                     "cut 0 0 0 1 1  1", "cut 0 0 0\t1 1 1", "cut0 0 0 1 1 1", "cut 0 0 0 11 1", " "):
            self.refuses("part a 1 1 1 x\n" + line + "\n", 1, 1)

    def test_empty_lines(self):
        self.refuses("\n", 0, 1)
        self.refuses("\n\n", 0, 1)
        self.refuses("\npart a 1 1 1 x\n", 0, 1)
        self.refuses("part a 1 1 1 x\n\n", 1, 1)
        self.refuses("part a 1 1 1 x\n\ncut 0 0 0 1 1 1\n", 1, 1)
        self.refuses("part a 1 1 1 x\ncut 0 0 0 1 1 1\n\n", 2, 1)

    def test_the_line_feed_behind_the_last_line(self):
        self.refuses("part a 1 1 1 x", 0, 1)
        self.refuses("p", 0, 1)
        self.refuses(" ", 0, 1)
        self.refuses("part a 1 1 1 x\ncut 0 0 0 1 1 1", 1, 1)
        self.refuses("part a 1 1 1 x\ncut 0 0 0 1 1 1\nc", 2, 1)
        self.refuses("part a 1 1 1 x\ncut 0 0 0 1 1 1\n ", 2, 1)

    def test_other_line_ends(self):
        for end in ("\r", "\r\n", "\x00", "\x0b", "\x0c", "\x85", "\x00\n"):
            self.refuses("part a 1 1 1 x" + end, 0, 1)

    def test_each_byte_that_stands_in_no_line(self):
        for byte in range(256):
            if chr(byte) not in "\n abcdefghijklmnopqrstuvwxyz0123456789":
                for text in (b"part a%c 1 1 1 x\n", b"part a 1 1 1 x%c\n", b"%cpart a 1 1 1 x\n"):
                    self.assertEqual(of(list(text % byte)), [-6, 0, 1], byte)

    def test_each_byte_beyond_by_128(self):
        good = data("part a 1 1 1 x\ncut 0 0 0 1 1 1\n")
        for at in range(len(good)):
            wrong = list(good)
            wrong[at] += 128
            self.assertEqual(of(wrong), [-6, 0 if at < 15 else 1, 1], at)


class LinesOutOfPlace(OfCase):
    def test_no_lines(self):
        self.assertEqual(of([]), [-6, 0, 3])

    def test_a_cut_first(self):
        self.refuses("cut 0 0 0 1 1 1\n", 0, 3)
        self.refuses("cut 0 0 0 1 1 1\npart a 1 1 1 x\n", 0, 3)
        self.refuses("cut 99 99 99 16 16 16\n", 0, 3)

    def test_a_part_behind_the_first_line(self):
        self.refuses("part a 1 1 1 x\npart a 1 1 1 x\n", 1, 3)
        self.refuses("part a 1 1 1 x\npart b 2 2 2 y\ncut 0 0 0 1 1 1\n", 1, 3)
        self.refuses("part a 1 1 1 x\ncut 0 0 0 1 1 1\npart b 1 1 1 z\n", 2, 3)


class TooManyCuts(OfCase):
    def test_the_sixty_fifth(self):
        block = "part a 2 2 2 x\n"
        self.refuses(block + "cut 0 0 0 1 1 1\n" * 65, 65, 2)
        self.refuses(block + "cut 0 0 0 1 1 1\n" * 64 + "cut 1 1 1 1 1 1\n", 65, 2)
        self.refuses(block + "cut 0 0 0 1 1 1\n" * 100, 65, 2)


class SeveralReasonsAtOnce(OfCase):
    def test_a_cut_first_that_is_not_formed(self):
        for line in ("cut 0 0 0 17 1 1\n", "cut 0 0 0 0 1 1\n", "cut 0 0 0 1 1\n", "cut 00 0 0 1 1 1\n",
                     "cut  0 0 0 1 1 1\n", "cut 0 0 0 1 1 1"):
            self.refuses(line, 0, 1)

    def test_a_second_part_that_is_not_formed(self):
        for line in ("part b 17 1 1 x\n", "part b 1 1 1 w\n", "part b 1 1 x\n", "part  1 1 1 x\n", "part b 1 1 1 x"):
            self.refuses("part a 1 1 1 x\n" + line, 1, 1)

    def test_a_cut_beyond_that_is_not_formed(self):
        for line in ("cut 0 0 0 17 1 1\n", "cut 5 0 0 0 1 1\n", "cut 05 0 0 1 1 1\n", "cut 5 0 0 1 1 1",
                     "cut 5 0 0 1 1\n"):
            self.refuses("part a 1 1 1 x\n" + line, 1, 1)

    def test_the_sixty_fifth_that_is_wrong_besides(self):
        full = "part a 2 2 2 x\n" + "cut 0 0 0 1 1 1\n" * 64
        self.refuses(full + "cut 2 0 0 1 1 1\n", 65, 4)
        self.refuses(full + "cut 0 0 0 1 3 1\n", 65, 4)
        self.refuses(full + "cut 0 0 0 1 1 17\n", 65, 1)
        self.refuses(full + "cut 0 0 0 1 1 1", 65, 1)
        self.refuses(full + "cut 2 0 0 1 1 1", 65, 1)
        self.refuses(full + "part a 1 1 1 x\n", 65, 3)
        self.refuses(full + "\n", 65, 1)


class SeveralLinesAtFault(OfCase):
    def test_the_first_is_told(self):
        block = "part a 2 2 2 x\n"
        beyond = "cut 2 0 0 1 1 1\n"
        unformed = "cut 0 0 0 1 1\n"
        self.refuses(block + beyond + unformed, 1, 4)
        self.refuses(block + unformed + beyond, 1, 1)
        self.refuses(block + block + unformed, 1, 3)
        self.refuses(block + beyond + block, 1, 4)
        self.refuses(block + "cut 0 0 0 1 1 1\n" + beyond + beyond, 2, 4)
        self.refuses("part a 0 2 2 x\n" + beyond, 0, 1)
        self.refuses("cut 0 0 0 1 1 1\n" + unformed, 0, 3)
        self.refuses(block + beyond + "cut 0 0 0 1 1 1", 1, 4)
        self.refuses(block + "cut 0 0 0 1 1 1\n" * 65 + unformed, 65, 2)
        self.refuses(block + "cut 0 0 0 1 1 1\n" * 63 + beyond + "cut 0 0 0 1 1 1\n" * 2, 64, 4)


class LongTexts(OfCase):
    def test_a_text_of_16384_bytes_is_read(self):
        head = "part a 1 1 1 x\ncut "
        tail = " 0 0 1 1 1\n"
        text = head + "9" * (16384 - len(head) - len(tail)) + tail
        self.assertEqual(len(text), 16384)
        self.refuses(text, 1, 4)
        self.refuses("a" * 16384, 0, 1)
        self.refuses("\n" * 16384, 0, 1)
        full = "part a 1 1 1 x\n" + "cut 0 0 0 1 1 1\n" * 1023
        self.refuses(full + "a", 65, 2)
        self.assertEqual(len(full + "a"), 16384)

    def test_one_byte_more_is_refused(self):
        head = "part a 1 1 1 x\ncut "
        tail = " 0 0 1 1 1\n"
        for text in (head + "9" * (16385 - len(head) - len(tail)) + tail, "a" * 16385, "\n" * 16385, "a" * 20000):
            self.assertEqual(of(data(text)), [-2])


class EachCallByItself(unittest.TestCase):
    texts = ("part a 3 2 2 x\ncut 0 0 0 1 2 1\ncut 1 1 1 1 1 1\n", "part a 1 1 1 x\ncut 1 0 0 1 1 1\n", "", "a" * 16385)

    def test_what_is_handed_in_stays(self):
        for text in self.texts:
            given = Untouched(data(text))
            of(given)
            self.assertEqual(list(given), data(text))

    def test_a_second_call_answers_as_the_first(self):
        given = [data(text) for text in self.texts]
        first = [of(part) for part in given]
        kept = [list(answer) for answer in first]
        self.assertEqual([of(part) for part in given], kept)
        for answer in first:
            answer.append(7)
            answer[0] = 7
        self.assertEqual([of(part) for part in reversed(given)], list(reversed(kept)))


if __name__ == "__main__":
    unittest.main()
