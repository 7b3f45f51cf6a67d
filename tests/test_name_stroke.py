"""name and stroke: what they answer, what they refuse, and in which order."""

import unittest

from helper import EVERYDAY, as_bytes, fill_lines, greatest_text, stroke_line, stroke_lines
from pensheets.drawings import name, stroke

HUGE = 10 ** 60
LONG = "abcdefghijklmnop"
BARE = "drawing bare 9 9\n"
NO_DRAWINGS = ["", "drawing", BARE[:-1], EVERYDAY[:-1], EVERYDAY + "\n", BARE + stroke_line("b") * 2,
               BARE + "fill 1 9,0\n", BARE + stroke_lines(65), " " * 65536]


class Name(unittest.TestCase):

    def told(self, k, text, called):
        self.assertEqual(name(k, as_bytes(text)), [len(called)] + as_bytes(called))

    def refused(self, k, text, number):
        self.assertEqual(name(k, as_bytes(text)), [number])

    def test_ordinary(self):
        self.told(0, EVERYDAY, "cel")
        self.told(1, EVERYDAY, "rim")
        self.told(2, EVERYDAY, "rim2")

    def test_as_many_as_there_are(self):
        text = BARE + stroke_lines(64) + fill_lines(2)
        for k in range(1, 65):
            self.told(k, text, f"s{k - 1}")
        self.refused(65, text, -4)

    def test_no_such_name(self):
        for k in (3, 4, HUGE):
            self.refused(k, EVERYDAY, -4)

    def test_fills_have_no_names(self):
        self.refused(1, BARE + fill_lines(3), -4)

    def test_shortest_and_longest(self):
        text = f"drawing z 1 1\n{stroke_line(LONG)}{stroke_line('y')}"
        self.told(0, text, "z")
        self.told(1, text, LONG)
        self.told(2, text, "y")
        self.told(0, f"drawing {LONG} 1 1\n", LONG)
        self.told(0, "drawing a123456789012345 1 1\n", "a123456789012345")

    def test_a_drawing_without_strokes(self):
        self.told(0, BARE, "bare")
        for k in (1, HUGE):
            self.refused(k, BARE, -4)

    def test_order(self):
        for k in (0, 1, 2, HUGE):
            for text in NO_DRAWINGS:
                self.refused(k, text, -6)
            for text in (" " * 65537, "x" * 70000, greatest_text() + "\n" * 25000):
                self.refused(k, text, -2)


class StrokeCall(unittest.TestCase):

    def told(self, i, text, asked):
        self.assertEqual(stroke(i, as_bytes(text)), asked)

    def test_ordinary(self):
        self.told(0, EVERYDAY, [1, 0, 2])
        self.told(1, EVERYDAY, [255, 16, 1])

    def test_as_many_as_there_are(self):
        text = BARE + "".join(stroke_line(f"s{i}", i + 1, i % 17, ((i, -i),) * (64 - i)) for i in range(64))
        for i in range(64):
            self.told(i, text, [i + 1, i % 17, 64 - i])
        self.told(64, text, [-4])

    def test_least_and_greatest(self):
        least = stroke_line("b", 1, 0, ((-999, -999),))
        greatest = stroke_line("c", 255, 16, ((999, 999),) * 64)
        self.told(0, BARE + least + greatest, [1, 0, 1])
        self.told(1, BARE + least + greatest, [255, 16, 64])

    def test_no_such_stroke(self):
        for i in (2, 3, HUGE):
            self.told(i, EVERYDAY, [-4])

    def test_a_drawing_without_strokes(self):
        for i in (0, 1, HUGE):
            self.told(i, BARE, [-4])
            self.told(i, BARE + fill_lines(3), [-4])

    def test_order(self):
        for i in (0, 1, HUGE):
            for text in NO_DRAWINGS:
                self.told(i, text, [-6])
            for text in (" " * 65537, "x" * 70000, greatest_text() + "\n" * 25000):
                self.told(i, text, [-2])


class HandedIn(unittest.TestCase):

    def test_is_as_it_was(self):
        for text in (EVERYDAY, BARE, EVERYDAY[:-1], " " * 65537):
            t = as_bytes(text)
            for number in (0, 1, 2, HUGE):
                name(number, t)
                stroke(number, t)
                self.assertEqual(t, as_bytes(text))


if __name__ == "__main__":
    unittest.main()
