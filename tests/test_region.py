"""region: how many points, whether it leaks, how far it reaches, and what it refuses."""

import random
import unittest

from helper import (EVERYDAY, as_bytes, drawing_text, fill_lines, greatest_text, picture_text, region_told, stroke_line,
                    winding_walls)
from pensheets.drawings import check, region

RIM = [(0, 0), (255, 0), (255, 255), (0, 255), (0, 0)]


class Region(unittest.TestCase):

    def told(self, text, *asked):
        """What's asked of fill 0, 1 and so on."""
        for i, numbers in enumerate(asked):
            self.assertEqual(region(i, as_bytes(text)), numbers, (i, text[:2000]))

    def pictured(self, picture, *asked):
        self.told(picture_text(picture), *asked)


class Points(Region):

    def test_one_point(self):
        self.pictured("### #0# ###", [1, 0, 1, 1, 1, 1])
        self.pictured("..... ..#.. .#0#. ..#.. .....", [1, 0, 2, 2, 2, 2])
        self.pictured("0#. ##. ...", [1, 1, 0, 0, 0, 0])

    def test_rectangles(self):
        self.pictured("###### #....# #..0.# #....# ######", [12, 0, 1, 1, 4, 3])
        self.pictured("###### #0#..# #.#.1# #.#..# ######", [3, 0, 1, 1, 1, 3], [6, 0, 3, 1, 4, 3])

    def test_no_rectangles(self):
        self.pictured("####### ###0### ##...## ###.### #######", [5, 0, 2, 1, 4, 3])
        self.pictured("####### #0##### #.##### #....## #######", [6, 0, 1, 1, 4, 3])
        self.pictured("####### ####..# ###0.## #...### #######", [7, 0, 1, 1, 5, 3])
        self.pictured("####### #.###.# #..0..# #.###.# #######", [9, 0, 1, 1, 5, 3])

    def test_the_farthest_points_are_none_of_the_fills_row_or_column(self):
        self.pictured("######### #..###### ##.###.## ##..0..## ##.###.## ######..# #########", [13, 0, 1, 1, 7, 5])

    def test_islands_and_regions_within(self):
        self.pictured("####### #0....# #.###.# #.#1#.# #.###.# #.....# #######",
                      [16, 0, 1, 1, 5, 5], [1, 0, 3, 3, 3, 3])
        self.pictured("##### #0..# #.#.# #...# #####", [8, 0, 1, 1, 3, 3])

    def test_two_fills_in_one_region(self):
        self.pictured("###### #0..1# #.#### #.2### ######", *[[7, 0, 1, 1, 4, 3]] * 3)
        self.pictured("####.# #0..1# ######", *[[5, 1, 1, 0, 4, 1]] * 2)
        ring = [(1, 0, [(1, 1), (4, 1), (4, 3), (1, 3), (1, 1)])]
        self.told(drawing_text(6, 5, ring, [(2, 2, 2), (7, 2, 2)]), *[[2, 0, 2, 2, 3, 2]] * 2)

    def test_regions_that_touch_at_a_corner_only(self):
        self.pictured("##### #0.## ###1# #####", [2, 0, 1, 1, 2, 1], [1, 0, 3, 2, 3, 2])
        self.pictured("##### ##.0# #1### #####", [2, 0, 2, 1, 3, 1], [1, 0, 1, 2, 1, 2])
        self.pictured("..#.. .#.#. #.0.# .#.#. ..#..", [5, 0, 1, 1, 3, 3])

    def test_no_way_round_the_sheet(self):
        # What lies at the right end of a row isn't beside the left end of the next one.
        self.pictured("###0 1### ####", [1, 1, 3, 0, 3, 0], [1, 1, 0, 1, 0, 1])
        self.pictured("##0# #### ##1#", [1, 1, 2, 0, 2, 0], [1, 1, 2, 2, 2, 2])

    def test_a_fill_paints_nothing_here(self):
        self.pictured("#### #01# #2## ####", *[[3, 0, 1, 1, 2, 2]] * 3)


class Leaks(Region):

    def test_by_each_edge_alone(self):
        self.pictured("##.## #.0.# #####", [4, 1, 1, 0, 3, 1])
        self.pictured("##### #.0.. #####", [4, 1, 1, 1, 4, 1])
        self.pictured("##### #.0.# ##.##", [4, 1, 1, 1, 3, 2])
        self.pictured("##### ..0.# #####", [4, 1, 0, 1, 3, 1])
        self.pictured("##### #.0.# #####", [3, 0, 1, 1, 3, 1])

    def test_by_each_corner_alone(self):
        self.pictured("0## ### ###", [1, 1, 0, 0, 0, 0])
        self.pictured("##0 ### ###", [1, 1, 2, 0, 2, 0])
        self.pictured("### ### ##0", [1, 1, 2, 2, 2, 2])
        self.pictured("### ### 0##", [1, 1, 0, 2, 0, 2])

    def test_far_from_the_fill(self):
        self.pictured("######## #0.....# ######.# #......# #.###### #....... ########", [21, 1, 1, 1, 7, 5])
        self.pictured("######## #0.....# ######.# #......# #.###### #......# ########", [20, 0, 1, 1, 6, 5])

    def test_a_point_from_the_edge(self):
        self.pictured("#### #0.# #..# ####", [4, 0, 1, 1, 2, 2])
        self.pictured(".... #### #0.# ####", [2, 0, 1, 2, 2, 2])


class Sheets(Region):

    def test_without_strokes(self):
        for width, height in ((1, 1), (1, 256), (256, 1), (2, 2), (3, 3), (7, 4), (256, 256)):
            asked = [width * height, 1, 0, 0, width - 1, height - 1]
            for x, y in ((0, 0), (width - 1, height - 1), (width // 2, height // 2)):
                self.told(drawing_text(width, height, [], [(1, x, y)]), asked)

    def test_narrow_with_strokes(self):
        self.told(drawing_text(1, 256, [(1, 0, [(0, 100)])], [(1, 0, 9), (1, 0, 101)]),
                  [100, 1, 0, 0, 0, 99], [155, 1, 0, 101, 0, 255])
        self.told(drawing_text(256, 1, [(1, 0, [(100, 0)])], [(1, 9, 0), (1, 101, 0)]),
                  [100, 1, 0, 0, 99, 0], [155, 1, 101, 0, 255, 0])

    def test_the_greatest_closed_region(self):
        self.told(drawing_text(256, 256, [(1, 0, RIM)], [(1, 99, 7)]), [254 * 254, 0, 1, 1, 254, 254])

    def test_a_long_winding_region(self):
        # 60 rows of 254 points, and one point between each two of them.
        asked = [60 * 254 + 59, 0, 1, 1, 254, 119]
        self.told(drawing_text(256, 256, winding_walls(120), [(1, 1, 1), (1, 5, 119), (1, 99, 61)]), *[asked] * 3)


class Chance(Region):

    def test_by_chance(self):
        chosen = random.Random(13)
        found = {}
        for turn in range(300):
            width, height = chosen.randint(1, 14), chosen.randint(1, 14)
            strokes = [
                (chosen.randint(1, 255), chosen.choice((0, 0, 0, 1, 2, 3)),
                 [(chosen.randint(-1, width), chosen.randint(-1, height)) for place in range(chosen.randint(1, 6))])
                for stroke in range(chosen.randint(0, 4))
            ]
            fills = [(1, chosen.randrange(width), chosen.randrange(height)) for fill in range(3)]
            asked = [region_told(width, height, strokes, fill) for fill in fills]
            self.told(drawing_text(width, height, strokes, fills), *asked, [-4])
            for numbers in asked:
                found[tuple(numbers[1:2])] = True
        self.assertEqual(sorted(found), [(), (0,), (1,)])


class Refused(Region):

    def test_not_clear(self):
        self.told(drawing_text(3, 3, [(1, 0, [(1, 1)])], [(2, 1, 1)]), [-3])
        self.told(drawing_text(3, 3, [(2, 0, [(1, 1)])], [(2, 1, 1), (2, 0, 1)]), [-3], [8, 1, 0, 0, 2, 2])
        self.told(drawing_text(1, 1, [(255, 16, [(8, 0)])], [(2, 0, 0)]), [-3])

    def test_no_such_fill(self):
        text = picture_text("##### #0#1# #####")
        for i in (2, 3, 64, 65, 10 ** 60 - 1, 10 ** 60):
            self.assertEqual(region(i, as_bytes(text)), [-4])
        for i in (0, 1, 10 ** 60):
            self.assertEqual(region(i, as_bytes("drawing a 9 9\n" + stroke_line("b") + stroke_line("c"))), [-4])

    def test_as_many_fills_as_can_be(self):
        t = as_bytes("drawing a 9 9\n" + fill_lines(64))
        self.assertEqual(region(63, t), [81, 1, 0, 0, 8, 8])
        self.assertEqual(region(64, t), [-4])

    def test_whether_the_drawing_is_right_is_not_asked(self):
        ring = [(1, 0, [(1, 1), (4, 1), (4, 3), (1, 3), (1, 1)])]
        asked = {(2, 2, 2): [2, 0, 2, 2, 3, 2], (2, 3, 2): [2, 0, 2, 2, 3, 2], (2, 1, 1): [-3],
                 (2, 0, 0): [18, 1, 0, 0, 5, 4]}
        for fills in ([(2, 2, 2), (2, 1, 1)], [(2, 1, 1), (2, 2, 2)], [(2, 0, 0), (2, 2, 2)], [(2, 2, 2), (2, 3, 2)],
                      [(2, 0, 0), (2, 1, 1), (2, 3, 2), (2, 2, 2), (2, 0, 0)]):
            text = drawing_text(6, 5, ring, fills)
            self.assertEqual(check(as_bytes(text))[0], -8)
            self.told(text, *[asked[fill] for fill in fills])

    def test_no_drawing(self):
        for text in ("", "drawing", "drawing a 0 1\n", EVERYDAY[:-1], EVERYDAY + "\n", "drawing a 9 9\nfill 1 9,0\n",
                     "drawing a 9 9\n" + fill_lines(65), " " * 65536):
            for i in (0, 1, 64, 10 ** 60):
                self.assertEqual(region(i, as_bytes(text)), [-6])

    def test_too_long(self):
        for text in (" " * 65537, "x" * 70000, greatest_text() + "\n" * 25000):
            for i in (0, 64, 10 ** 60):
                self.assertEqual(region(i, as_bytes(text)), [-2])

    def test_greatest_text(self):
        t = as_bytes(greatest_text())
        for i in (0, 63):
            self.assertEqual(region(i, t), [65536, 1, 0, 0, 255, 255])
        self.assertEqual(region(64, t), [-4])

    def test_handed_in_is_as_it_was(self):
        for text in (EVERYDAY, EVERYDAY[:-1], " " * 65537, picture_text("### #0# ###"), picture_text("#### #01# ####")):
            for i in (0, 1, 9):
                t = as_bytes(text)
                first = region(i, t)
                self.assertEqual(t, as_bytes(text))
                self.assertEqual(region(i, t), first)


if __name__ == "__main__":
    unittest.main()
