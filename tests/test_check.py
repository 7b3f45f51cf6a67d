"""check: right drawings, the three kinds of wrong fills, which of them is told, and what it refuses."""

import random
import unittest

from helper import (EVERYDAY, as_bytes, checked, drawing_text, fill_lines, greatest_text, picture_text, stroke_line,
                    winding_walls)
from pensheets.drawings import check, inked


class Check(unittest.TestCase):

    def told(self, text, asked):
        self.assertEqual(check(as_bytes(text)), asked, text[:2000])

    def pictured(self, picture, asked):
        self.told(picture_text(picture), asked)

    def holds(self, width, height, strokes, fills):
        self.told(drawing_text(width, height, strokes, fills), checked(width, height, strokes, fills))


class Right(Check):

    def test_without_fills(self):
        for width, height in ((1, 1), (1, 256), (256, 1), (256, 256), (5, 7)):
            self.told(drawing_text(width, height), [0])
            self.told(drawing_text(width, height, [(1, 16, [(0, 0)])]), [0])

    def test_one_closed_region(self):
        self.pictured("### #0# ###", [0])
        self.pictured(".#. #0# .#.", [0])
        self.pictured("..... .###. .#0#. .###. .....", [0])
        self.pictured("####### #..0..# #.###.# #.#.#.# #.###.# #.....# #######", [0])

    def test_several(self):
        self.pictured("##### #0#1# ##### #2#3# #####", [0])
        self.pictured("##### #3#1# ##### #0#2# #####", [0])
        self.pictured("####### #0....# #.###.# #.#1#.# #.###.# #.....# #######", [0])

    def test_an_open_region_without_a_fill_is_no_matter(self):
        self.pictured("###.. #0#.. ###..", [0])

    def test_regions_that_touch_at_a_corner_only(self):
        self.pictured("####. #0### ###1# ..###", [0])
        self.pictured(".#### ###0# #1### ###..", [0])
        self.pictured("####. #0#.. ##1## .###.", [0])
        self.pictured("####. #0#.. ##1.# .###.", [-8, 2, 1])

    def test_a_region_out_of_which_only_corners_lead(self):
        self.pictured("..#.. .#.#. #.0.# .#.#. ..#..", [0])
        self.pictured("..#.. .#.#. #.0.# .#... ..#..", [-8, 2, 0])

    def test_as_many_as_can_be(self):
        rows = ["#" * 17] + ["#." * 8 + "#", "#" * 17] * 8
        strokes = [(1, 0, [(0, y), (16, y)]) for y in range(0, 17, 2)]
        strokes += [(1, 0, [(x, 0), (x, 16)]) for x in range(0, 17, 2)]
        cells = [(x, y) for y, row in enumerate(rows) for x, sign in enumerate(row) if sign == "."]
        self.assertEqual(len(cells), 64)
        fills = [(k + 1, x, y) for k, (x, y) in enumerate(cells)]
        self.told(drawing_text(17, 17, strokes, fills), [0])
        self.told(drawing_text(17, 17, strokes, fills[::-1]), [0])
        self.told(drawing_text(17, 17, strokes, fills[:63] + [(1, 1, 1)]), [-8, 3, 63])
        self.told(drawing_text(17, 17, strokes, fills[:63] + [(1, 0, 0)]), [-8, 1, 63])

    def test_a_brush_closes_gaps(self):
        corners = [(5, 5), (14, 5), (14, 14), (5, 14), (5, 6)]
        self.told(drawing_text(20, 20, [(1, 0, corners)], [(2, 9, 9)]), [0])
        corners[-1] = (5, 7)
        self.told(drawing_text(20, 20, [(1, 0, corners)], [(2, 9, 9)]), [-8, 2, 0])
        self.told(drawing_text(20, 20, [(1, 2, corners)], [(2, 9, 9)]), [0])

    def test_a_slanting_stroke_closes(self):
        diamond = [(4, 0), (8, 4), (4, 8), (0, 4), (4, 0)]
        self.told(drawing_text(9, 9, [(1, 0, diamond)], [(2, 4, 4)]), [0])

    def test_places_off_the_sheet_close_nothing(self):
        around = [(-1, -1), (3, -1), (3, 3), (-1, 3), (-1, -1)]
        self.told(drawing_text(3, 3, [(1, 0, around)], [(2, 1, 1)]), [-8, 2, 0])
        self.told(drawing_text(3, 3, [(1, 2, around)], [(2, 1, 1)]), [0])


class Kinds(Check):

    def test_on_ink(self):
        self.told(drawing_text(3, 3, [(1, 0, [(1, 1)])], [(2, 1, 1)]), [-8, 1, 0])
        self.told(drawing_text(1, 1, [(1, 0, [(0, 0)])], [(2, 0, 0)]), [-8, 1, 0])

    def test_on_ink_of_its_own_paint(self):
        self.told(drawing_text(3, 3, [(2, 0, [(1, 1)])], [(2, 1, 1)]), [-8, 1, 0])

    def test_leaks(self):
        self.told("drawing a 1 1\nfill 1 0,0\n", [-8, 2, 0])
        self.told("drawing a 3 3\nfill 1 1,1\n", [-8, 2, 0])
        for width, height in ((1, 256), (256, 1), (256, 256)):
            self.told(drawing_text(width, height, [], [(1, width // 2, height // 2)]), [-8, 2, 0])

    def test_leaks_by_each_side_alone(self):
        self.pictured("##.## #.0.# #####", [-8, 2, 0])
        self.pictured("##### #.0.. #####", [-8, 2, 0])
        self.pictured("##### #.0.# ##.##", [-8, 2, 0])
        self.pictured("##### ..0.# #####", [-8, 2, 0])

    def test_at_the_edge_and_one_from_it(self):
        self.pictured("0## ### ###", [-8, 2, 0])
        self.pictured("##0 ### ###", [-8, 2, 0])
        self.pictured("### ### ##0", [-8, 2, 0])
        self.pictured("### ### 0##", [-8, 2, 0])
        self.pictured("#0# ### ###", [-8, 2, 0])
        self.pictured("### ##0 ###", [-8, 2, 0])
        self.pictured("### ### #0#", [-8, 2, 0])
        self.pictured("### 0## ###", [-8, 2, 0])
        self.pictured("#### #0.# ####", [0])
        self.pictured("### #0# #.# ###", [0])

    def test_the_edge_is_open_where_theres_no_ink(self):
        self.pictured("###0# #...# #####", [-8, 2, 0])
        self.pictured(".... #### #0.# ####", [0])

    def test_no_way_round_the_sheet(self):
        # What lies at the right end of a row isn't beside the left end of the next one.
        self.pictured("#### #0## ###. ####", [0])
        self.pictured("####. ##0## #1#.. ####.", [0])

    def test_a_long_way_out(self):
        self.pictured("########## #0.......# ########.# #........# #.######## #......... ##########", [-8, 2, 0])
        self.pictured("########## #0.......# ########.# #........# #.######## #........# ##########", [0])

    def test_the_region_of_a_fill_before(self):
        self.pictured("#### #01# ####", [-8, 3, 1])
        ring = [(1, 0, [(0, 0), (2, 0), (2, 2), (0, 2), (0, 0)])]
        self.told(drawing_text(3, 3, ring, [(2, 1, 1), (2, 1, 1)]), [-8, 3, 1])
        self.told(drawing_text(3, 3, ring, [(2, 1, 1), (3, 1, 1)]), [-8, 3, 1])

    def test_the_region_of_a_fill_farther_before(self):
        self.pictured("####### #0.#1.# #.2#..# #######", [-8, 3, 2])
        self.pictured("####### #1.#0.# #.2#..# #######", [-8, 3, 2])


class WhichIsTold(Check):

    def test_two_kinds_of_one_fill(self):
        # On ink at the edge; on the ink on which a fill before lies; leaking where one before does.
        self.told(drawing_text(3, 3, [(1, 0, [(0, 0)])], [(2, 0, 0)]), [-8, 1, 0])
        self.told(drawing_text(3, 3, [(1, 0, [(1, 1)])], [(2, 1, 1), (2, 1, 1)]), [-8, 1, 0])
        self.told("drawing a 3 3\n" + "fill 1 1,1\n" * 2, [-8, 2, 0])

    def test_the_least_number(self):
        ring = [(1, 0, [(1, 1), (4, 1), (4, 3), (1, 3), (1, 1)])]
        right, again, ink, leak = (2, 2, 2), (2, 3, 2), (2, 1, 1), (2, 0, 0)
        for fills, asked in (
            ([right], [0]),
            ([right, ink], [-8, 1, 1]), ([right, leak], [-8, 2, 1]), ([right, again], [-8, 3, 1]),
            ([ink, leak], [-8, 1, 0]), ([leak, ink], [-8, 2, 0]),
            ([right, again, ink], [-8, 3, 1]), ([right, ink, again], [-8, 1, 1]),
            ([right, again, leak], [-8, 3, 1]), ([right, leak, again], [-8, 2, 1]),
            ([again, right], [-8, 3, 1]), ([right, leak, ink, again], [-8, 2, 1]),
        ):
            self.told(drawing_text(6, 5, ring, fills), asked)

    def test_the_first_of_as_many_as_can_be(self):
        self.told("drawing a 9 9\n" + fill_lines(64), [-8, 2, 0])

    def test_by_chance(self):
        chosen = random.Random(11)
        found = []
        for turn in range(400):
            width, height = chosen.randint(1, 14), chosen.randint(1, 14)
            strokes = [
                (chosen.randint(1, 255), chosen.choice((0, 0, 0, 1, 2, 3)),
                 [(chosen.randint(-1, width), chosen.randint(-1, height)) for place in range(chosen.randint(1, 6))])
                for stroke in range(chosen.randint(2, 4))
            ]
            points = inked(as_bytes(drawing_text(width, height, strokes)))[1:]
            clear = [k for k in range(width * height) if points[k] == 0]
            within = [k for k in clear if 0 < k % width < width - 1 and 0 < k // width < height - 1]
            numbers = [chosen.choice(within or range(width * height)) for fill in range(chosen.randint(0, 4))]
            fills = [(1, k % width, k // width) for k in numbers]
            self.holds(width, height, strokes, fills)
            found.append(tuple(checked(width, height, strokes, fills)))
        for asked in ((0,), (-8, 1, 0), (-8, 2, 0), (-8, 2, 1), (-8, 3, 1)):
            self.assertIn(asked, found)


class Great(Check):

    def test_the_greatest_region(self):
        rim = [(0, 0), (255, 0), (255, 255), (0, 255), (0, 0)]
        self.told(drawing_text(256, 256, [(1, 0, rim)], [(2, 1, 1)]), [0])
        self.told(drawing_text(256, 256, [(1, 0, rim)], [(2, 1, 1), (3, 254, 254)]), [-8, 3, 1])
        self.told(drawing_text(256, 256, [(1, 0, rim[:-1])], [(2, 1, 1)]), [-8, 2, 0])

    def test_a_long_winding_region(self):
        *walls, rim = winding_walls(122)
        self.told(drawing_text(256, 256, walls + [rim], [(2, 5, 1)]), [0])
        self.told(drawing_text(256, 256, walls + [rim], [(2, 5, 1), (2, 5, 121)]), [-8, 3, 1])
        gap = (1, 0, [(0, 0), (255, 0), (255, 122), (1, 122)])
        self.told(drawing_text(256, 256, walls + [gap, (1, 0, [(0, 0), (0, 120)])], [(2, 5, 1)]), [-8, 2, 0])


class Refused(Check):

    def test_no_drawing(self):
        for text in ("", "drawing", "drawing a 0 1\n", EVERYDAY[:-1], EVERYDAY + "\n", "drawing a 9 9\nfill 1 9,0\n",
                     "drawing a 9 9\n" + stroke_line("b") * 2, "drawing a 9 9\n" + fill_lines(65), " " * 65536):
            self.told(text, [-6])

    def test_too_long(self):
        for text in (" " * 65537, "x" * 70000, greatest_text() + "\n" * 25000):
            self.told(text, [-2])

    def test_no_drawing_comes_before_not_right(self):
        self.told("drawing a 9 9\nfill 1 0,0\n", [-8, 2, 0])
        self.told("drawing a 9 9\nfill 1 0,0\nfill 1 9,9\n", [-6])

    def test_greatest_text(self):
        self.told(greatest_text(), [-8, 2, 0])

    def test_handed_in_is_as_it_was(self):
        for text in (EVERYDAY, EVERYDAY[:-1], " " * 65537, picture_text("### #0# ###"), picture_text("#### #01# ####")):
            t = as_bytes(text)
            first = check(t)
            self.assertEqual(t, as_bytes(text))
            self.assertEqual(check(t), first)


if __name__ == "__main__":
    unittest.main()
