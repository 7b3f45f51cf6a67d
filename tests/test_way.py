"""way: as few steps as can be, which of several ways that are as short, and what it refuses."""

import random
import unittest

from helper import (EVERYDAY, as_bytes, assert_same, drawing_text, fill_lines, greatest_text, led, picture_text,
                    stroke_line, way_told, winding_walls)
from pensheets.drawings import check, way


class Way(unittest.TestCase):

    def told(self, text, *asked):
        """What's asked of fill 0, 1 and so on."""
        for i, numbers in enumerate(asked):
            assert_same(self, way(i, as_bytes(text)), numbers, (i, text))

    def leads(self, picture, *asked):
        """Where the ways from the picture's fills lead, step by step; None: there's no way."""
        rows = picture.split()
        places = {sign: (x, y) for y, row in enumerate(rows) for x, sign in enumerate(row)}
        ways = [[-3] if steps is None else led(len(rows[0]), *places[str(i)], steps) for i, steps in enumerate(asked)]
        self.told(picture_text(picture), *ways)


class AtTheEdge(Way):

    def test_its_number_alone(self):
        for x, y in ((0, 0), (3, 0), (6, 0), (6, 2), (6, 4), (2, 4), (0, 4), (0, 1)):
            self.told(drawing_text(7, 5, [], [(1, x, y)]), [y * 7 + x])

    def test_alone_in_its_region(self):
        self.leads("##0# #### #### ####", "")
        self.leads("#### ###0 #### ####", "")
        self.leads("#### #### #### #0##", "")
        self.leads("#### #### 0### ####", "")

    def test_narrow_sheets(self):
        self.told("drawing a 1 1\nfill 1 0,0\n", [0])
        for k in (0, 1, 128, 255):
            self.told(drawing_text(1, 256, [], [(1, 0, k)]), [k])
            self.told(drawing_text(256, 1, [], [(1, k, 0)]), [k])
            self.told(drawing_text(2, 256, [], [(1, 1, k)]), [2 * k + 1])
            self.told(drawing_text(256, 2, [], [(1, k, 1)]), [256 + k])


class OneStep(Way):

    def test_from_each_edge(self):
        for x, y, step in ((4, 1, "U"), (7, 4, "R"), (4, 7, "D"), (1, 4, "L")):
            self.told(drawing_text(9, 9, [], [(1, x, y)]), led(9, x, y, step))

    def test_by_the_one_gap(self):
        self.leads("#.# #0# ###", "U")
        self.leads("### #0. ###", "R")
        self.leads("### #0# #.#", "D")
        self.leads("### .0# ###", "L")

    def test_in_the_corners(self):
        for x, y, step in ((1, 1, "U"), (7, 1, "U"), (7, 7, "R"), (1, 7, "D")):
            self.told(drawing_text(9, 9, [], [(1, x, y)]), led(9, x, y, step))


class SeveralAsShort(Way):

    def test_the_first_of_upper_right_lower_left(self):
        self.leads("... .0. ...", "U")
        self.leads(".#. .0. ...", "R")
        self.leads(".#. .0# ...", "D")
        self.leads(".#. .0# .#.", "L")
        self.leads("... .0# ...", "U")
        self.leads("... #0. .#.", "U")
        self.leads(".#. #0. ...", "R")
        self.leads(".#. #0. .#.", "R")

    def test_in_the_middle(self):
        self.told(drawing_text(5, 5, [], [(1, 2, 2)]), led(5, 2, 2, "UU"))
        self.told(drawing_text(9, 9, [], [(1, 4, 4)]), led(9, 4, 4, "UUUU"))
        self.told(drawing_text(8, 8, [], [(1, 4, 4), (1, 3, 4), (1, 4, 3), (1, 3, 3)]),
                  led(8, 4, 4, "RRR"), led(8, 3, 4, "DDD"), led(8, 4, 3, "UUU"), led(8, 3, 3, "UUU"))

    def test_the_upper_one_is_clear_but_farther(self):
        self.leads("##### #..## #.0.. #..## #####", "RR")
        self.leads("##### #...# #.0.# #...# ##.##", "DD")
        self.leads("##### #...# ..0.# #...# #####", "LL")
        self.leads("##### #...# #.0.# #...# .####", None)
        self.leads("##### #...# #.0.# ....# #####", "DLL")

    def test_at_each_point_anew(self):
        # To the gap at the upper right: up as long as that is nearer, then right.
        self.leads("####### #....## #...... #....## #0...## #######", "UURRRRR")
        self.leads("####### #....## #....## #....## #0..... #######", "RRRRR")
        self.leads("####### #....## #....## #0...## #...... #######", "RRRDRR")
        self.leads("####### ##....# ......# ##....# ##...0# #######", "UULLLLL")
        self.leads("####### ##...0# ##....# ......# ##....# #######", "DDLLLLL")

    def test_islands_are_gone_round(self):
        self.leads("##.## #...# #.#.# #.0.# #####", "RUULU")
        self.leads("##.## #...# #.### #.0.# #####", "LUURU")
        self.leads("#.### #...# #.#.# #.0.# #####", "LUUU")

    def test_two_gaps_as_near(self):
        self.leads("##### ..0.. #####", "RR")
        self.leads("#.#.# #.0.# #####", "RU")
        self.leads("##### #.0.# #.#.#", "RD")
        self.leads("##.## ##.## ##0## ##.## ##.##", "UU")
        self.leads("####### ..0.... #######", "LL")


class Passages(Way):

    def test_the_nearest_edge_isnt_the_nearest_by_steps(self):
        self.leads("####### #0..... #######", "RRRRR")
        self.leads("####### #0....# ######. #######", None)
        self.leads("####### #0....# #####.# #.....# #.#####", "RRRRDDLLLLD")
        self.leads("######## ##...... ##.##### #.0....# ######.# ######.#", "RRRRDD")
        self.leads("######## ##...... ##.##### #.0....# ######.# ######.# ######.#", "UURRRRR")
        self.leads("######## ##.....# ##.###.# #.0....# ######.# ######.#", "RRRRDD")

    def test_back_and_forth(self):
        self.leads("########## #0.......# ########.# #........# #.######## #......... ##########",
                   "R" * 7 + "DD" + "L" * 7 + "DD" + "R" * 8)

    def test_upwards(self):
        self.leads("#.#### #....# ####.# #....# #.#### #...0# ######", "LLLUURRRUULLLU")

    def test_blind_alleys_are_left_out(self):
        self.leads("######### #.#...#.# #.#.#.#.# #0..#.... #.#.#.#.# #.#.#.#.# #########", "RRUURRDDRRR")

    def test_the_first_point_at_the_edge_ends_it(self):
        self.leads("...... ####.# #0...# ######", "RRRUU")
        self.leads("###### #0.... ###### ......", "RRRR")

    def test_a_long_passage(self):
        *walls, rim = winding_walls(254)
        # The rim has a gap at (255, 253), where the last row of the passage ends.
        rim = (1, 0, [(255, 252), (255, 0), (0, 0), (0, 254), (255, 254)])
        turns = "".join("R" * 253 + "DD" + "L" * 253 + "DD" for pair in range(63)) + "R" * 254
        text = drawing_text(256, 256, walls + [rim], [(2, 1, 1), (2, 200, 253), (2, 254, 1)])
        self.told(text, led(256, 1, 1, turns), led(256, 200, 253, "R" * 55), led(256, 254, 1, turns[253:]))
        self.assertEqual(len(turns), 126 * 255 + 254)
        self.told(drawing_text(256, 256, winding_walls(254), [(2, 1, 1), (2, 200, 253)]), [-3], [-3])

    def test_greatest_sheet(self):
        self.told(drawing_text(256, 256, [], [(1, 128, 128), (1, 127, 127), (1, 127, 128)]),
                  led(256, 128, 128, "R" * 127), led(256, 127, 127, "U" * 127), led(256, 127, 128, "D" * 127))


class Chance(Way):

    def test_by_chance(self):
        chosen = random.Random(17)
        lengths = {}
        for turn in range(400):
            width, height = chosen.randint(1, 15), chosen.randint(1, 15)
            strokes = [
                (1, chosen.choice((0, 0, 0, 0, 1, 2)),
                 [(chosen.randint(-1, width), chosen.randint(-1, height)) for place in range(chosen.randint(1, 5))])
                for stroke in range(chosen.randint(0, 4))
            ]
            fills = [(1, chosen.randrange(width), chosen.randrange(height)) for fill in range(3)]
            asked = [way_told(width, height, strokes, fill) for fill in fills]
            self.told(drawing_text(width, height, strokes, fills), *asked, [-4])
            for numbers in asked:
                lengths[0 if numbers == [-3] else len(numbers)] = True
        self.assertLessEqual({0, 1, 2, 3, 4, 5}, set(lengths))

    def test_in_mazes(self):
        chosen = random.Random(19)
        lengths = []
        for turn in range(150):
            inner = ["".join(chosen.choice("#..") for x in range(9)) for y in range(9)]
            rows = ["#" * 11] + [f"#{row}#" for row in inner] + ["#" * 11]
            rows[5] = rows[5][:5] + "0" + rows[5][6:]
            for gap in range(chosen.randint(1, 3)):
                y = chosen.randrange(1, 10)
                rows[y] = chosen.choice((rows[y][:-1] + ".", "." + rows[y][1:]))
            ink = [(1, 0, [(x, y)]) for y, row in enumerate(rows) for x, sign in enumerate(row) if sign == "#"]
            asked = way_told(11, 11, ink, (1, 5, 5))
            self.told(picture_text(" ".join(rows)), asked)
            lengths.append(len(asked))
        self.assertGreater(sum(length > 7 for length in lengths), 20)
        self.assertGreater(lengths.count(1), 20)


class Refused(Way):

    def test_not_clear(self):
        self.told(drawing_text(3, 3, [(1, 0, [(1, 1)])], [(2, 1, 1)]), [-3])
        self.told(drawing_text(3, 3, [(2, 0, [(0, 0)])], [(2, 0, 0)]), [-3])
        self.told(drawing_text(1, 1, [(255, 16, [(8, 0)])], [(2, 0, 0)]), [-3])

    def test_closed(self):
        self.leads("### #0# ###", None)
        self.leads("..... .###. .#0#. .###. .....", None)
        self.leads("..#.. .#.#. #.0.# .#.#. ..#..", None)
        self.leads("##### #0#1# #####", None, None)
        self.leads("##### #0#1. #####", None, "R")
        rim = [(0, 0), (255, 0), (255, 255), (0, 255), (0, 0)]
        self.told(drawing_text(256, 256, [(1, 0, rim)], [(1, 99, 7)]), [-3])

    def test_no_such_fill(self):
        text = picture_text("##### #0.1. #####")
        for i in (2, 3, 64, 65, 10 ** 60 - 1, 10 ** 60):
            self.assertEqual(way(i, as_bytes(text)), [-4])
        for i in (0, 1, 10 ** 60):
            self.assertEqual(way(i, as_bytes("drawing a 9 9\n" + stroke_line("b") + stroke_line("c"))), [-4])

    def test_as_many_fills_as_can_be(self):
        t = as_bytes("drawing a 9 9\n" + fill_lines(64))
        self.assertEqual(way(63, t), [0])
        self.assertEqual(way(64, t), [-4])

    def test_whether_the_drawing_is_right_is_not_asked(self):
        ring = [(1, 0, [(2, 2), (5, 2), (5, 4), (2, 4), (2, 2)])]
        asked = {(2, 3, 3): [-3], (2, 4, 3): [-3], (2, 2, 2): [-3], (2, 1, 1): [9, 1], (2, 6, 3): [30, 31]}
        for fills in ([(2, 1, 1)], [(2, 1, 1), (2, 2, 2)], [(2, 2, 2), (2, 1, 1)], [(2, 1, 1), (2, 6, 3)],
                      [(2, 3, 3), (2, 4, 3), (2, 6, 3)], [(2, 6, 3), (2, 3, 3), (2, 6, 3), (2, 2, 2), (2, 1, 1)]):
            text = drawing_text(8, 7, ring, fills)
            self.assertEqual(check(as_bytes(text))[0], -8)
            self.told(text, *[asked[fill] for fill in fills])

    def test_no_drawing(self):
        for text in ("", "drawing", "drawing a 0 1\n", EVERYDAY[:-1], EVERYDAY + "\n", "drawing a 9 9\nfill 1 9,0\n",
                     "drawing a 9 9\n" + fill_lines(65), " " * 65536):
            for i in (0, 1, 64, 10 ** 60):
                self.assertEqual(way(i, as_bytes(text)), [-6])

    def test_too_long(self):
        for text in (" " * 65537, "x" * 70000, greatest_text() + "\n" * 25000):
            for i in (0, 64, 10 ** 60):
                self.assertEqual(way(i, as_bytes(text)), [-2])

    def test_greatest_text(self):
        t = as_bytes(greatest_text())
        self.assertEqual(way(63, t), [65535])
        self.assertEqual(way(64, t), [-4])

    def test_handed_in_is_as_it_was(self):
        for text in (EVERYDAY, EVERYDAY[:-1], " " * 65537, picture_text("### #0# ###"), picture_text("#### #01. ####")):
            for i in (0, 1, 9):
                t = as_bytes(text)
                first = way(i, t)
                self.assertEqual(t, as_bytes(text))
                self.assertEqual(way(i, t), first)


if __name__ == "__main__":
    unittest.main()
