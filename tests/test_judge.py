"""judge at ordinary drawings and at the edges that the document names."""

import unittest

from helper import EVERYDAY, as_bytes, fill_lines, greatest_text, stroke_line, stroke_lines
from pensheets.drawings import judge

HEAD = "drawing a 9 9\n"
LONG = "abcdefghijklmnop"


class Judged(unittest.TestCase):

    def good(self, text):
        self.assertEqual(judge(as_bytes(text)), [0], text[-80:])

    def bad(self, begin, rest):
        """Of begin and rest together just begin is a drawing's text's beginning."""
        self.assertEqual(judge(as_bytes(begin + rest)), [-6, len(begin)], (begin[-80:], rest))


class Ordinary(Judged):

    def test_drawings(self):
        self.good(HEAD)
        self.good(HEAD + "stroke b 7 3 1,2 3,4 1,2\n")
        self.good(HEAD + "fill 7 8,8\n")
        self.good(HEAD + "stroke b 7 3 1,2 3,4\nstroke c 7 3 1,2\nfill 7 8,8\nfill 7 8,8\n")
        self.good(EVERYDAY)

    def test_a_stroke_may_be_called_like_the_drawing(self):
        self.good("drawing a 9 9\nstroke a 1 0 0,0\n")

    def test_words(self):
        for text in ("Drawing a 9 9\n", " drawing a 9 9\n", "\n", "stroke a 1 0 0,0\n", "fill 1 0,0\n"):
            self.bad("", text)
        self.bad("drawing", "\ta 9 9\n")
        self.bad("drawing a 9", ",9\n")
        self.bad("drawing a 9 9", "\r\n")
        self.bad("drawing a 9 9", " \n")
        self.bad(HEAD, "\n")
        self.bad(HEAD, "drawing a 9 9\n")
        self.bad(HEAD + "st", "op")
        self.bad(HEAD + "f", "all")
        self.bad(HEAD + "stroke b 1 0 0,0", ",0\n")
        self.bad(HEAD + "stroke b 1 0 0", " 0\n")
        self.bad(HEAD + "fill 1 0,0", " 0,0\n")

    def test_no_stroke_behind_a_fill(self):
        self.bad(HEAD + "fill 1 0,0\n", "stroke b 1 0 0,0\n")

    def test_bytes_that_are_no_characters(self):
        for byte in (0, 9, 13, 127, 128, 255):
            self.assertEqual(judge([byte]), [-6, 0])
            self.assertEqual(judge(as_bytes(HEAD) + [byte]), [-6, len(HEAD)])

    def test_half_texts(self):
        self.bad("", "")
        self.bad("drawing a 9 9", "")
        self.bad(HEAD + "stroke b 1 0 -", "")
        self.bad(HEAD + "stroke b 1 0", "\n")


class Names(Judged):

    def test_the_drawing(self):
        self.good("drawing z 1 1\n")
        self.good(f"drawing {LONG} 1 1\n")
        self.good("drawing a123456789012345 1 1\n")
        self.bad(f"drawing {LONG}", "q 1 1\n")
        self.bad("drawing ", " 1 1\n")
        for first in "09AZ_-`{":
            self.bad("drawing ", first + "a 1 1\n")
        for later in "AZ_-`{/:":
            self.bad("drawing a", later + "a 1 1\n")

    def test_strokes(self):
        self.good(HEAD + stroke_line("z"))
        self.good(HEAD + stroke_line(LONG))
        self.bad(HEAD + f"stroke {LONG}", "q 1 0 0,0\n")
        self.bad(HEAD + "stroke ", " 1 0 0,0\n")
        for first in "09AZ_-`{":
            self.bad(HEAD + "stroke ", first + "a 1 0 0,0\n")

    def test_the_same_name(self):
        self.bad(HEAD + stroke_line("b") + "stroke b", " 1 0 0,0\n")
        self.bad(HEAD + stroke_line("b") + stroke_line("c") + "stroke b", " 2 1 3,3\n")
        self.bad(HEAD + stroke_line("b") + "stroke b", "")

    def test_names_that_begin_alike(self):
        self.good(HEAD + stroke_line("b") + stroke_line("bc"))
        self.good(HEAD + stroke_line("bc") + stroke_line("b"))
        self.good(HEAD + stroke_line(LONG) + stroke_line(LONG[:15]))
        self.good(HEAD + stroke_line(LONG[:15]) + stroke_line(LONG))
        self.bad(HEAD + stroke_line("bc") + stroke_line("b") + "stroke bc", " 1 0 0,0\n")

    def test_the_same_name_of_sixteen_signs(self):
        # Nothing can be put behind sixteen signs to make them another name.
        self.bad(HEAD + stroke_line(LONG) + "stroke " + LONG[:15], "p 1 0 0,0\n")
        self.bad(HEAD + stroke_line(LONG) + "stroke " + LONG[:15], "p")
        self.good(HEAD + stroke_line(LONG) + stroke_line(LONG[:15] + "q"))

    def test_all_names_with_the_same_fifteen_signs(self):
        most = LONG[:15]
        tails = list("abcdefghijklmnopqrstuvwxyz0123456789")
        full = HEAD + "".join(stroke_line(most + tail) for tail in tails)
        self.good(full + stroke_line(most))
        # With the fifteen signs themselves used too, no name that begins with them is left.
        self.bad(full + stroke_line(most) + "stroke " + most[:14], most[14] + " 1 0 0,0\n")
        self.bad(full + stroke_line(most) + "stroke " + most[:14], most[14])
        self.good(full + stroke_line(most) + stroke_line(most[:14]))
        # One that's left is enough.
        self.bad(full + "stroke " + most, "a 1 0 0,0\n")
        one_left = HEAD + stroke_line(most) + "".join(stroke_line(most + tail) for tail in tails[:-1])
        self.good(one_left + stroke_line(most + "9"))
        self.bad(one_left + "stroke " + most, " 1 0 0,0\n")
        self.bad(one_left + "stroke " + most, "8 1 0 0,0\n")


class Numbers(Judged):

    def test_size(self):
        for side in (1, 2, 9, 10, 99, 100, 255, 256):
            self.good(f"drawing a {side} 1\n")
            self.good(f"drawing a 1 {side}\n")
        for begin, end in (("drawing a ", " 1\n"), ("drawing a 1 ", "\n")):
            self.bad(begin, "0" + end)
            self.bad(begin + "25", "7" + end)
            self.bad(begin + "26", "0" + end)
            self.bad(begin + "30", "0" + end)
            self.bad(begin + "100", "0" + end)
            self.bad(begin, "-1" + end)

    def test_paint(self):
        for begin, end in ((HEAD + "stroke b ", " 0 0,0\n"), (HEAD + "fill ", " 0,0\n")):
            self.good(begin + "1" + end)
            self.good(begin + "255" + end)
            self.bad(begin, "0" + end)
            self.bad(begin + "25", "6" + end)
            self.bad(begin, "-1" + end)

    def test_brush(self):
        begin, end = HEAD + "stroke b 1 ", " 0,0\n"
        for brush in range(17):
            self.good(begin + str(brush) + end)
        self.bad(begin + "1", "7" + end)
        self.bad(begin + "2", "0" + end)
        self.bad(begin, "-1" + end)

    def test_places(self):
        begin = HEAD + "stroke b 1 0 "
        for told in (-999, -100, -10, -1, 0, 1, 10, 100, 999):
            self.good(begin + f"{told},0\n")
            self.good(begin + f"0,{told}\n")
            self.good(begin + f"0,0 {told},{told}\n")
        for before, behind in (("", ",0\n"), ("0,", "\n"), ("5,5 ", ",0\n"), ("5,5 0,", "\n")):
            self.bad(begin + before + "100", "0" + behind)
            self.bad(begin + before + "999", "9" + behind)
            self.bad(begin + before + "-100", "0" + behind)
            self.bad(begin + before + "-999", "9" + behind)

    def test_points_of_fills(self):
        for side in (1, 2, 10, 11, 100, 256):
            head = f"drawing a {side} 9\nfill 1 "
            self.good(head + f"{side - 1},0\n")
            self.bad(head + ("" if side < 10 else str(side)[:-1]), str(side)[-1] + ",0\n")
            head = f"drawing a 9 {side}\nfill 1 0,"
            self.good(head + f"{side - 1}\n")
            self.bad(head + ("" if side < 10 else str(side)[:-1]), str(side)[-1] + "\n")
        self.bad(HEAD + "fill 1 ", "-1,0\n")
        self.bad(HEAD + "fill 1 0,", "-1\n")

    def test_width_and_height_are_not_mixed_up(self):
        self.good("drawing a 3 5\nfill 1 2,4\n")
        self.bad("drawing a 3 5\nfill 1 ", "4,2\n")
        self.bad("drawing a 5 3\nfill 1 2,", "4\n")

    def test_needless_noughts(self):
        for begin in ("drawing a ", "drawing a 1 ", HEAD + "stroke b ", HEAD + "fill "):
            self.bad(begin, "01 1\n")
        for begin in (HEAD + "stroke b 1 ", HEAD + "stroke b 1 0 ", HEAD + "stroke b 1 0 0,",
                      HEAD + "fill 1 ", HEAD + "fill 1 0,"):
            self.bad(begin + "0", "1")
            self.bad(begin + "0", "0")

    def test_minus(self):
        for begin in (HEAD + "stroke b 1 0 ", HEAD + "stroke b 1 0 0,"):
            self.bad(begin + "-", "0")
            self.bad(begin + "-", "01")
            self.bad(begin + "-", "-1")
            self.bad(begin + "-", ",0\n")
            self.bad(begin + "-", "\n")
            self.bad(begin + "-", "")
            self.bad(begin, "+1")

    def test_no_digit(self):
        for begin, end in (("drawing a ", " 1\n"), ("drawing a 1 ", "\n"), (HEAD + "stroke b ", " 0 0,0\n"),
                           (HEAD + "stroke b 1 ", " 0,0\n"), (HEAD + "stroke b 1 0 ", ",0\n"),
                           (HEAD + "stroke b 1 0 0,", "\n"), (HEAD + "fill ", " 0,0\n"),
                           (HEAD + "fill 1 ", ",0\n"), (HEAD + "fill 1 0,", "\n")):
            for none in ("", "x", "/", ":"):
                self.bad(begin, none + end)


class HowMany(Judged):

    def test_places(self):
        begin = HEAD + "stroke b 1 0"
        self.bad(begin, "\n")
        self.good(begin + " 0,0\n")
        self.good(begin + " 0,0" * 64 + "\n")
        self.bad(begin + " 0,0" * 64, " 0,0\n")
        self.bad(begin + " 0,0" * 63 + " ", "\n")

    def test_strokes(self):
        self.good(HEAD + stroke_lines(64))
        self.good(HEAD + stroke_lines(64) + fill_lines(1))
        self.bad(HEAD + stroke_lines(64), stroke_line("new"))

    def test_fills(self):
        self.good(HEAD + fill_lines(64))
        self.bad(HEAD + fill_lines(64), "fill 1 0,0\n")
        self.good(HEAD + stroke_lines(64) + fill_lines(64))
        self.bad(HEAD + stroke_lines(64) + fill_lines(64), "f")

    def test_bytes(self):
        text = greatest_text()
        self.good(text)
        self.bad(text, "\n" * (65536 - len(text)))
        self.bad("", " " * 65536)
        for long in (text + "\n" * (65537 - len(text)), " " * 65537, "x" * 70000, text + "f" * (70000 - len(text))):
            self.assertEqual(judge(as_bytes(long)), [-2])


if __name__ == "__main__":
    unittest.main()
