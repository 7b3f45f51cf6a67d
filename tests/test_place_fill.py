"""place and fill: what they answer, what they refuse, and in which order."""

import unittest

from helper import EVERYDAY, as_bytes, fill_lines, greatest_text, stroke_line, stroke_lines
from pensheets.drawings import fill, place

HUGE = 10 ** 60
BARE = "drawing bare 9 9\n"
NO_DRAWINGS = ["", "drawing", BARE[:-1], EVERYDAY[:-1], EVERYDAY + "\n", BARE + stroke_line("b") * 2,
               BARE + "fill 1 9,0\n", BARE + "fill 0 0,0\n", BARE + "stroke b 1 0\n", BARE + stroke_lines(65),
               BARE + "stroke b 1 0 1000,0\n", BARE + "stroke b 1 0 0,-1000\n", " " * 65536]
TOO_LONG = [" " * 65537, "x" * 70000, greatest_text() + "\n" * 25000]


class Place(unittest.TestCase):

    def told(self, i, k, text, asked):
        self.assertEqual(place(i, k, as_bytes(text)), asked, (i, k))

    def test_ordinary(self):
        self.told(0, 0, EVERYDAY, [0, 0])
        self.told(0, 1, EVERYDAY, [-9, 10])
        self.told(1, 0, EVERYDAY, [-999, 999])

    def test_strokes_of_1_to_64_places(self):
        counts = (1, 2, 3, 31, 63, 64)
        places = [[(10 * i - k, 999 - i * k) for k in range(count)] for i, count in enumerate(counts)]
        text = BARE + "".join(stroke_line(f"s{i}", places=row) for i, row in enumerate(places)) + fill_lines(3)
        for i, row in enumerate(places):
            for k, told in enumerate(row):
                self.told(i, k, text, list(told))
            self.told(i, len(row), text, [-4])
        self.told(len(counts), 0, text, [-4])

    def test_as_many_strokes_as_there_are(self):
        text = BARE + "".join(stroke_line(f"s{i}", places=[(i, -i), (-i, i)]) for i in range(64))
        for i in range(64):
            self.told(i, 0, text, [i, -i])
            self.told(i, 1, text, [-i, i])
        self.told(64, 0, text, [-4])

    def test_first_and_last(self):
        first = [(1, 2), (3, 4), (5, 6)]
        last = [(7 - k, k) for k in range(64)]
        text = BARE + stroke_line("b", places=first) + stroke_line("c", places=[(8, 8)]) \
            + stroke_line("d", places=last)
        self.told(0, 0, text, [1, 2])
        self.told(0, 2, text, [5, 6])
        self.told(1, 0, text, [8, 8])
        self.told(2, 0, text, [7, 0])
        self.told(2, 63, text, [-56, 63])

    def test_least_and_greatest(self):
        edges = (-999, -1, 0, 1, 999)
        places = [(x, y) for x in edges for y in edges]
        text = BARE + stroke_line("b", places=places)
        for k, (x, y) in enumerate(places):
            self.told(0, k, text, [x, y])

    def test_a_place_below_0_is_no_refusal(self):
        for x, y in ((-2, -6), (-4, 0), (-6, 1)):
            self.told(0, 0, BARE + stroke_line("b", places=[(x, y)]), [x, y])

    def test_no_such_place(self):
        self.told(0, 2, EVERYDAY, [-4])
        self.told(1, 1, EVERYDAY, [-4])
        self.told(0, HUGE, EVERYDAY, [-4])
        self.told(0, 64, BARE + stroke_line("b", places=[(1, 1)] * 64), [-4])

    def test_no_such_stroke(self):
        for i in (2, 3, HUGE):
            for k in (0, 1, 2, HUGE):
                self.told(i, k, EVERYDAY, [-4])

    def test_a_drawing_without_strokes(self):
        for i in (0, 1, HUGE):
            for k in (0, 1, HUGE):
                self.told(i, k, BARE, [-4])
                self.told(i, k, BARE + fill_lines(3), [-4])

    def test_order(self):
        for i in (0, 1, HUGE):
            for k in (0, 1, HUGE):
                for text in NO_DRAWINGS:
                    self.told(i, k, text, [-6])
                for text in TOO_LONG:
                    self.told(i, k, text, [-2])


class Fill(unittest.TestCase):

    def told(self, i, text, asked):
        self.assertEqual(fill(i, as_bytes(text)), asked, i)

    def test_ordinary(self):
        self.told(0, EVERYDAY, [9, 11, 255])
        self.told(1, EVERYDAY, [10, 0, 0])

    def test_as_many_as_there_are(self):
        fills = [[255 - i, 3 * i, i] for i in range(64)]
        text = "drawing a 200 70\n" + stroke_line("b") + "".join(f"fill {p} {x},{y}\n" for p, x, y in fills)
        for i in range(64):
            self.told(i, text, fills[i])
        self.told(64, text, [-4])

    def test_least_and_greatest(self):
        for width, height in ((1, 1), (1, 256), (256, 1), (256, 256), (12, 7)):
            for paint in (1, 255):
                corner = f"{width - 1},{height - 1}"
                text = f"drawing a {width} {height}\nfill {paint} 0,0\nfill {paint} {corner}\n"
                self.told(0, text, [paint, 0, 0])
                self.told(1, text, [paint, width - 1, height - 1])

    def test_no_such_fill(self):
        for i in (2, 3, HUGE):
            self.told(i, EVERYDAY, [-4])

    def test_a_drawing_without_fills(self):
        for i in (0, 1, HUGE):
            self.told(i, BARE, [-4])
            self.told(i, BARE + stroke_lines(3), [-4])

    def test_a_fill_need_not_be_right(self):
        self.told(0, BARE + stroke_line("b", places=[(4, 4)]) + "fill 3 4,4\n", [3, 4, 4])

    def test_order(self):
        for i in (0, 1, HUGE):
            for text in NO_DRAWINGS:
                self.told(i, text, [-6])
            for text in TOO_LONG:
                self.told(i, text, [-2])


class HandedIn(unittest.TestCase):

    def test_is_as_it_was(self):
        for text in (EVERYDAY, BARE, EVERYDAY[:-1], " " * 65537):
            t = as_bytes(text)
            for i in (0, 1, 2, HUGE):
                fill(i, t)
                for k in (0, 1, HUGE):
                    place(i, k, t)
                self.assertEqual(t, as_bytes(text))


if __name__ == "__main__":
    unittest.main()
