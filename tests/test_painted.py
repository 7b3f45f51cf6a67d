"""painted: regions of right drawings in their paints, -8 alone of all others, and what else it refuses."""

import itertools
import random
import unittest

from helper import (EVERYDAY, as_bytes, assert_same, checked, drawing_text, fill_lines, greatest_text, inked_points,
                    painted_points, picture_text, stroke_line, winding_walls)
from pensheets.drawings import check, inked, painted

RING = [(1, 1), (4, 1), (4, 3), (1, 3), (1, 1)]
RIM = [(0, 0), (255, 0), (255, 255), (0, 255), (0, 0)]


class Painted(unittest.TestCase):

    def told(self, text, asked):
        assert_same(self, painted(as_bytes(text)), asked, text)

    def looks(self, text, picture):
        """A dot is clear, else a sign is the paint's number."""
        rows = picture.split()
        points = [0 if sign == "." else int(sign) for sign in "".join(rows)]
        self.told(text, [len(rows) * len(rows[0])] + points)

    # The picture's ink has the paint 1, its fill k the paint k + 1.
    def pictured(self, picture, asked):
        self.looks(picture_text(picture), asked)

    def holds(self, width, height, strokes, fills):
        asked = [width * height] + painted_points(width, height, strokes, fills)
        self.told(drawing_text(width, height, strokes, fills), asked)


class WithoutFills(Painted):

    def test_the_inked_sheet(self):
        for width, height in ((1, 1), (1, 256), (256, 1), (256, 256), (5, 7)):
            for strokes in ([], [(7, 3, [(0, 0), (9, 4)]), (255, 0, [(3, 5)])]):
                t = as_bytes(drawing_text(width, height, strokes))
                assert_same(self, painted(t), inked(t))
                self.assertEqual(painted(t)[0], width * height)

    def test_regions_without_a_fill_stay_clear(self):
        self.pictured("### #.# ###", "111 1.1 111")
        self.pictured("...", "...")


class Right(Painted):

    def test_one_fill(self):
        self.pictured("### #1# ###", "111 121 111")
        self.pictured("..... .###. .#1#. .###. .....", "..... .111. .121. .111. .....")
        self.pictured(".#. #1# .#.", ".1. 121 .1.")

    def test_from_each_of_a_regions_points(self):
        rows = "###### #...## ###..# ##.#.# ######".split()
        for y, row in enumerate(rows):
            for x, sign in enumerate(row):
                if sign == "." and (x, y) != (2, 3):
                    told = rows[:y] + [row[:x] + "1" + row[x + 1:]] + rows[y + 1:]
                    self.pictured(" ".join(told), "111111 122211 111221 11.121 111111")

    def test_several_regions(self):
        self.pictured("##### #1#2# ##### #3#4# #####", "11111 12131 11111 14151 11111")
        self.pictured("##### #1#.# ##### #3#4# #####", "11111 121.1 11111 14151 11111")

    def test_one_region_within_another(self):
        self.pictured("####### #1....# #.###.# #.#2#.# #.###.# #.....# #######",
                      "1111111 1222221 1211121 1213121 1211121 1222221 1111111")
        self.pictured("####### #1....# #.###.# #.#.#.# #.###.# #.....# #######",
                      "1111111 1222221 1211121 121.121 1211121 1222221 1111111")
        self.pictured("####### #.....# #.###.# #.#1#.# #.###.# #.....# #######",
                      "1111111 1.....1 1.111.1 1.121.1 1.111.1 1.....1 1111111")

    def test_an_island_stays(self):
        self.pictured("##### #1..# #.#.# #...# #####", "11111 12221 12121 12221 11111")
        island = (5, 0, [(3, 2)])
        self.looks(drawing_text(6, 5, [(1, 0, [(0, 0), (5, 0), (5, 4), (0, 4), (0, 0)]), island], [(7, 1, 1)]),
                   "111111 177771 177571 177771 111111")

    def test_regions_that_touch_at_a_corner_only(self):
        self.pictured("####. #1### ###2# ..###", "1111. 12111 11131 ..111")
        self.pictured("####. #1#.. ##2## .###.", "1111. 121.. 11311 .111.")
        self.pictured("####. #1#.. ##.## .###.", "1111. 121.. 11.11 .111.")

    def test_a_strokes_paint(self):
        ring = [(4, 0, RING)]
        for paint in (1, 4, 255):
            asked = [30] + [{".": 0, "4": 4, "f": paint}[sign] for sign in "......" ".4444." ".4ff4." ".4444." "......"]
            self.told(drawing_text(6, 5, ring, [(paint, 2, 2)]), asked)

    def test_two_regions_of_one_paint(self):
        strokes = [(1, 0, [(0, 0), (6, 0), (6, 2), (0, 2), (0, 0)]), (1, 0, [(3, 0), (3, 2)])]
        self.looks(drawing_text(7, 3, strokes, [(9, 1, 1), (9, 5, 1)]), "1111111 1991991 1111111")
        # The paint of the stroke between them doesn't make one region of them.
        self.looks(drawing_text(7, 3, strokes, [(1, 1, 1), (2, 5, 1)]), "1111111 1111221 1111111")
        self.looks(drawing_text(7, 3, strokes, [(2, 5, 1), (1, 1, 1)]), "1111111 1111221 1111111")

    def test_strokes_over_one_another_close_together(self):
        self.looks(drawing_text(5, 3, [(1, 0, [(0, 0), (4, 0)]), (2, 0, [(4, 0), (4, 2), (0, 2)]),
                                       (3, 0, [(0, 1)])], [(9, 2, 1)]), "11112 39992 22222")

    def test_whatever_the_order(self):
        strokes = [(1, 0, [(x, 0), (x, 4)]) for x in range(0, 9, 2)]
        strokes += [(2, 0, [(0, y), (8, y)]) for y in (0, 4)] + [(3, 0, [(4, 2), (8, 2)])]
        fills = [(5, 1, 3), (6, 3, 1), (7, 5, 1), (5, 7, 3)]
        asked = [45] + painted_points(9, 5, strokes, fills)
        self.assertEqual(set(asked[1:]), {0, 1, 2, 3, 5, 6, 7})
        for order in itertools.permutations(fills):
            self.told(drawing_text(9, 5, strokes, order), asked)

    def test_as_many_fills_as_can_be(self):
        strokes = [(255, 0, [(0, y), (16, y)]) for y in range(0, 17, 2)]
        strokes += [(255, 0, [(x, 0), (x, 16)]) for x in range(0, 17, 2)]
        fills = [(x + 16 * y, x, y) for y in range(1, 16, 2) for x in range(1, 16, 2)]
        self.assertEqual(len(fills), 64)
        asked = [289] + [x + 16 * y if x % 2 == y % 2 == 1 else 255 for y in range(17) for x in range(17)]
        self.told(drawing_text(17, 17, strokes, fills), asked)
        self.told(drawing_text(17, 17, strokes, fills[::-1]), asked)

    def test_by_chance(self):
        chosen = random.Random(21)
        several = 0
        for turn in range(300):
            width, height = chosen.randint(3, 16), chosen.randint(3, 16)
            strokes = [
                (chosen.randint(1, 255), chosen.choice((0, 0, 0, 1, 2, 3)),
                 [(chosen.randint(-1, width), chosen.randint(-1, height)) for place in range(chosen.randint(3, 7))])
                for stroke in range(chosen.randint(2, 4))
            ]
            points = inked_points(width, height, strokes)
            fills = []
            for k in chosen.sample(range(width * height), min(width * height, 60)):
                more = fills + [(chosen.randint(1, 255), k % width, k // width)]
                if points[k] == 0 and check(as_bytes(drawing_text(width, height, strokes, more))) == [0]:
                    fills = more
            self.assertEqual(checked(width, height, strokes, fills), [0])
            self.holds(width, height, strokes, fills)
            chosen.shuffle(fills)
            self.holds(width, height, strokes, fills)
            several += len(fills) > 1
        self.assertGreater(several, 30)


class Great(Painted):

    def test_the_greatest_region(self):
        asked = [65536] + [9 if k % 256 in (0, 255) or k // 256 in (0, 255) else 8 for k in range(65536)]
        for x, y in ((1, 1), (254, 1), (1, 254), (254, 254), (100, 200)):
            self.told(drawing_text(256, 256, [(9, 0, RIM)], [(8, x, y)]), asked)

    def test_a_long_winding_region(self):
        strokes = winding_walls(120)
        bare = inked(as_bytes(drawing_text(256, 256, strokes)))
        asked = [65536] + [7 if paint == 0 and k // 256 < 120 else paint for k, paint in enumerate(bare[1:])]
        self.assertGreater(asked.count(7), 15000)
        for y in (1, 61, 119):
            self.told(drawing_text(256, 256, strokes, [(7, 128, y)]), asked)


class NotRight(Painted):

    def test_on_ink(self):
        self.told(drawing_text(6, 5, [(1, 0, RING)], [(2, 1, 1)]), [-8])
        self.told(drawing_text(1, 1, [(2, 0, [(0, 0)])], [(2, 0, 0)]), [-8])

    def test_leaks(self):
        self.told(drawing_text(6, 5, [(1, 0, RING)], [(2, 0, 0)]), [-8])
        self.told("drawing a 1 1\nfill 1 0,0\n", [-8])
        self.told(drawing_text(256, 256, [(1, 0, RIM[:4])], [(2, 9, 9)]), [-8])

    def test_a_fill_before(self):
        self.told(drawing_text(6, 5, [(1, 0, RING)], [(2, 2, 2), (3, 3, 2)]), [-8])
        self.told(drawing_text(6, 5, [(1, 0, RING)], [(2, 2, 2), (2, 2, 2)]), [-8])

    def test_behind_right_fills(self):
        right = [(3, 2, 2)]
        for wrong in ((2, 1, 1), (2, 0, 0), (2, 3, 2)):
            self.told(drawing_text(6, 5, [(1, 0, RING)], right + [wrong]), [-8])
            self.told(drawing_text(6, 5, [(1, 0, RING)], [wrong] + right), [-8])
        self.looks(drawing_text(6, 5, [(1, 0, RING)], right), "...... .1111. .1331. .1111. ......")

    def test_just_where_check_says_so(self):
        chosen = random.Random(8)
        found = {}
        for turn in range(400):
            picture = " ".join("".join(chosen.choice("###.") for x in range(7)) for y in range(7))
            signs = list(picture)
            for sign in "012"[:chosen.randint(0, 3)]:
                signs[chosen.choice([k for k in range(len(signs)) if signs[k] in "#."])] = sign
            t = as_bytes(picture_text("".join(signs)))
            told = check(t)
            self.assertEqual(painted(t)[0], -8 if told[0] == -8 else 49)
            self.assertEqual(len(painted(t)), 1 if told[0] == -8 else 50)
            found[tuple(told[:2])] = True
        self.assertIn((0,), found)
        self.assertIn((-8, 2), found)


class Refused(Painted):

    def test_no_drawing(self):
        for text in ("", "drawing", "drawing a 0 1\n", EVERYDAY[:-1], EVERYDAY + "\n", "drawing a 9 9\nfill 1 9,0\n",
                     "drawing a 9 9\nfill 0 1,1\n", "drawing a 9 9\n" + stroke_line("b") * 2,
                     "drawing a 9 9\n" + fill_lines(65), " " * 65536):
            self.told(text, [-6])

    def test_too_long(self):
        for text in (" " * 65537, "x" * 70000, greatest_text() + "\n" * 25000):
            self.told(text, [-2])

    def test_no_drawing_comes_before_not_right(self):
        self.told("drawing a 9 9\nfill 1 0,0\n", [-8])
        self.told("drawing a 9 9\nfill 1 0,0\nfill 1 9,9\n", [-6])

    def test_greatest_text(self):
        self.told(greatest_text(), [-8])

    def test_handed_in_is_as_it_was(self):
        for text in (EVERYDAY, EVERYDAY[:-1], " " * 65537, picture_text("### #0# ###"), picture_text("#### #01# ####")):
            t = as_bytes(text)
            first = painted(t)
            self.assertEqual(t, as_bytes(text))
            self.assertEqual(painted(t), first)


if __name__ == "__main__":
    unittest.main()
