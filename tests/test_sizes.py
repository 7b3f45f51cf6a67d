"""sizes: what it answers, what it refuses, and in which order."""

import unittest

from helper import EVERYDAY, as_bytes, fill_lines, greatest_text, stroke_line, stroke_lines
from pensheets.drawings import sizes


class Sizes(unittest.TestCase):

    def told(self, text, asked):
        self.assertEqual(sizes(as_bytes(text)), asked)

    def test_ordinary(self):
        self.told("drawing a 1 1\n", [1, 1, 0, 0, 0])
        self.told("drawing a 7 256\n", [7, 256, 0, 0, 0])
        self.told("drawing a 256 7\n" + fill_lines(2), [256, 7, 0, 2, 0])
        self.told("drawing a 3 4\n" + stroke_line("b", places=[(0, 0)] * 5), [3, 4, 1, 0, 5])
        self.told(EVERYDAY, [12, 256, 2, 2, 3])

    def test_most(self):
        self.told("drawing a 9 9\n" + stroke_lines(64), [9, 9, 64, 0, 64])
        self.told("drawing a 9 9\n" + stroke_line("b", places=[(1, 1)] * 64), [9, 9, 1, 0, 64])
        self.told("drawing a 9 9\n" + fill_lines(64), [9, 9, 0, 64, 0])
        self.told(greatest_text(), [256, 256, 64, 64, 4096])

    def test_no_drawing(self):
        for text in ("", "drawing", "drawing a 0 1\n", "drawing a 257 1\n", EVERYDAY[:-1], EVERYDAY + "\n",
                     "drawing a 9 9\n" + stroke_line("b") * 2, "drawing a 9 9\n" + fill_lines(65),
                     "drawing a 9 9\n" + stroke_lines(65), "drawing a 9 9\nfill 1 9,0\n", " " * 65536):
            self.told(text, [-6])

    def test_too_long(self):
        self.told(" " * 65537, [-2])
        self.told(greatest_text() + "\n" * 25000, [-2])


if __name__ == "__main__":
    unittest.main()
