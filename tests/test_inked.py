"""inked: straights, dabs, strokes over one another, and what it refuses."""

import random
import unittest

from helper import EVERYDAY, as_bytes, assert_same, drawing_text, fill_lines, greatest_text, inked_points, stroke_line
from pensheets.drawings import inked


def pictured(width, height, strokes):
    """The inked sheet as rows of signs: a dot is clear, else the paint's number."""
    count, *points = inked(as_bytes(drawing_text(width, height, strokes)))
    assert count == len(points) == width * height
    rows = [points[y * width:(y + 1) * width] for y in range(height)]
    return " ".join("".join("." if paint == 0 else str(paint) for paint in row) for row in rows)


class Inked(unittest.TestCase):

    def looks(self, strokes, picture):
        rows = picture.split()
        self.assertEqual(pictured(len(rows[0]), len(rows), strokes), " ".join(rows))

    def holds(self, width, height, strokes):
        asked = [width * height] + inked_points(width, height, strokes)
        assert_same(self, inked(as_bytes(drawing_text(width, height, strokes))), asked, (width, height, strokes))


class Sheets(Inked):

    def test_clear(self):
        for width, height in ((1, 1), (1, 256), (256, 1), (256, 256), (3, 2)):
            asked = [width * height] + [0] * (width * height)
            assert_same(self, inked(as_bytes(drawing_text(width, height))), asked)

    def test_corners(self):
        for width, height in ((1, 1), (1, 256), (256, 1), (256, 256), (3, 2)):
            text = drawing_text(width, height, [(7, 0, [(0, 0)]), (255, 0, [(width - 1, height - 1)])])
            points = [0] * (width * height)
            points[0] = 7
            points[-1] = 255
            assert_same(self, inked(as_bytes(text)), [width * height] + points)

    def test_a_point_has_the_number_y_w_plus_x(self):
        self.assertEqual(inked(as_bytes(drawing_text(3, 2, [(9, 0, [(2, 0)])]))), [6, 0, 0, 9, 0, 0, 0])
        self.assertEqual(inked(as_bytes(drawing_text(2, 3, [(9, 0, [(1, 2)])]))), [6, 0, 0, 0, 0, 0, 9])

    def test_fills_ink_nothing(self):
        self.assertEqual(inked(as_bytes("drawing a 2 2\n" + fill_lines(3))), [4, 0, 0, 0, 0])
        text = drawing_text(5, 5, [(1, 0, [(1, 1), (3, 1), (3, 3), (1, 3), (1, 1)])], [(9, 2, 2), (9, 2, 1)])
        self.assertEqual(inked(as_bytes(text))[1 + 12], 0)

    def test_narrow_sheets(self):
        for width, height in ((1, 1), (1, 256), (256, 1)):
            for brush in (0, 1, 2, 3, 15, 16):
                self.holds(width, height, [(3, brush, [(-20, 40), (30, -11)]), (4, brush, [(90, 3)]),
                                           (5, brush, [(2, 200)]), (6, brush, [(0, 0)])])


class Straights(Inked):

    def test_one_place(self):
        self.looks([(4, 0, [(1, 1)])], "... .4. ...")

    def test_two_places_that_are_the_same(self):
        self.looks([(4, 0, [(1, 1), (1, 1)])], "... .4. ...")

    def test_several_places(self):
        self.looks([(1, 0, [(0, 0), (4, 0), (4, 3), (1, 3)])], "11111 ....1 ....1 .1111")
        self.looks([(1, 0, [(0, 0), (0, 0), (3, 3), (3, 3), (3, 0)])], "1..1 .1.1 ..11 ...1")

    def test_a_stroke_isnt_closed_by_itself(self):
        self.looks([(1, 0, [(0, 0), (3, 0), (3, 3)])], "1111 ...1 ...1 ...1")

    def test_straights_of_one_stroke_alone_are_joined(self):
        self.looks([(1, 0, [(0, 0)]), (2, 0, [(3, 0)])], "1..2")

    def test_straight_and_slanting(self):
        self.looks([(1, 0, [(0, 1), (4, 1)])], "..... 11111 .....")
        self.looks([(1, 0, [(1, 0), (1, 3)])], ".1. .1. .1. .1.")
        self.looks([(1, 0, [(0, 0), (3, 3)])], "1... .1.. ..1. ...1")
        self.looks([(1, 0, [(3, 0), (0, 3)])], "...1 ..1. .1.. 1...")

    def test_flat(self):
        self.looks([(1, 0, [(0, 0), (4, 1)])], "11... ..111")
        self.looks([(1, 0, [(0, 1), (4, 0)])], "...11 111..")
        self.looks([(1, 0, [(0, 0), (6, 2)])], "11..... ..111.. .....11")
        self.looks([(1, 0, [(0, 0), (5, 2)])], "11.... ..11.. ....11")

    def test_steep(self):
        self.looks([(1, 0, [(0, 0), (1, 4)])], "1. 1. .1 .1 .1")
        self.looks([(1, 0, [(1, 0), (0, 4)])], ".1 .1 .1 1. 1.")
        self.looks([(1, 0, [(0, 0), (2, 5)])], "1.. 1.. .1. .1. ..1 ..1")

    def test_of_two_that_are_as_near_the_greater(self):
        self.looks([(1, 0, [(0, 0), (2, 1)])], "1.. .11")
        self.looks([(1, 0, [(0, 1), (2, 0)])], "..1 11.")
        self.looks([(1, 0, [(0, 0), (1, 2)])], "1. .1 .1")
        self.looks([(1, 0, [(1, 0), (0, 2)])], ".1 .1 1.")
        self.looks([(1, 0, [(0, 0), (6, 3)])], "1...... .11.... ...11.. .....11")
        self.looks([(1, 0, [(0, 3), (6, 0)])], "......1 ....11. ..11... 11.....")

    def test_the_same_either_way_round(self):
        for u in range(-6, 7):
            for v in range(-6, 7):
                there = pictured(13, 13, [(1, 0, [(6, 6), (6 + u, 6 + v)])])
                back = pictured(13, 13, [(1, 0, [(6 + u, 6 + v), (6, 6)])])
                self.assertEqual(there, back, (u, v))

    def test_all_directions(self):
        for u in range(-8, 9):
            for v in range(-8, 9):
                self.holds(17, 17, [(1, 0, [(8, 8), (8 + u, 8 + v)])])

    def test_as_many_places_as_steps_and_one(self):
        for u in range(-12, 13):
            for v in range(-12, 13):
                ink = pictured(25, 25, [(1, 0, [(12, 12), (12 + u, 12 + v)])]).count("1")
                self.assertEqual(ink, max(abs(u), abs(v)) + 1, (u, v))


class Dabs(Inked):

    def test_small_brushes(self):
        for brush in (0, 1):
            self.looks([(1, brush, [(2, 2)])], "..... ..... ..1.. ..... .....")
        self.looks([(1, 2, [(2, 2)])], "..... ..1.. .111. ..1.. .....")
        self.looks([(1, 3, [(2, 2)])], "..... .111. .111. .111. .....")
        self.looks([(1, 4, [(2, 2)])], "..1.. .111. 11111 .111. ..1..")
        self.looks([(1, 5, [(2, 2)])], ".111. 11111 11111 11111 .111.")

    def test_every_brush(self):
        for brush in range(17):
            self.holds(21, 19, [(1, brush, [(10, 9)])])

    def test_how_many_points(self):
        for brush in range(17):
            asked = sum(4 * (a * a + b * b) <= brush * brush for a in range(-9, 10) for b in range(-9, 10))
            self.assertEqual(pictured(19, 19, [(1, brush, [(9, 9)])]).count("1"), asked, brush)

    def test_greatest_brushes(self):
        # 4 (8 8 + 0) is just 16 16, but more than 15 15.
        for brush, ink in ((15, "."), (16, "1")):
            points = pictured(19, 19, [(1, brush, [(9, 9)])]).split()
            self.assertEqual([points[1][9], points[17][9], points[9][1], points[9][17]], [ink] * 4)
            self.assertEqual([points[0][9], points[18][9], points[9][0], points[9][18]], ["."] * 4)
            self.assertEqual([points[2][9], points[9][16]], ["1"] * 2)

    def test_along_straights(self):
        self.looks([(1, 2, [(1, 1), (4, 1)])], ".1111. 111111 .1111.")
        self.looks([(1, 3, [(1, 1), (3, 3)])], "111.. 1111. 11111 .1111 ..111")
        for brush in (0, 1, 2, 3, 15, 16):
            self.holds(40, 30, [(1, brush, [(9, 9), (30, 14), (25, 25)]), (2, brush, [(3, 28)])])


class OffTheSheet(Inked):

    def test_wholly(self):
        for brush in (0, 1, 2, 3, 15, 16):
            for places in ([(-30, 3)], [(3, 40)], [(-50, -50), (90, -50)], [(-999, 999), (-999, -999)],
                           [(-30, 9), (9, -30)], [(999, 999)]):
                self.assertEqual(set(pictured(8, 8, [(1, brush, places)])), {".", " "}, places)

    def test_partly(self):
        self.looks([(1, 0, [(-3, 1), (2, 1)])], ".... 111. ....")
        self.looks([(1, 0, [(2, 1), (9, 1)])], ".... ..11 ....")
        self.looks([(1, 0, [(1, -9), (1, 1)])], ".1.. .1.. ....")
        self.looks([(1, 0, [(1, 1), (1, 9)])], ".... .1.. .1..")
        self.looks([(1, 0, [(-5, -5), (5, 5)])], "1... .1.. ..1.")

    def test_out_and_back(self):
        self.looks([(1, 0, [(0, 0), (-5, 0), (-5, 2), (1, 2)])], "1.. ... 11.")

    def test_no_wrapping_round(self):
        self.looks([(1, 0, [(4, 0)]), (1, 0, [(-1, 2)])], ".... .... ....")
        self.looks([(1, 2, [(3, 1)])], "...1 ..11 ...1")
        self.looks([(1, 2, [(0, 1)])], "1... 11.. 1...")

    def test_dabs_that_reach_the_sheet(self):
        self.looks([(1, 2, [(-1, 1)])], "... 1.. ...")
        self.looks([(1, 2, [(3, 1)])], "... ..1 ...")
        self.looks([(1, 2, [(1, -1)])], ".1. ... ...")
        self.looks([(1, 2, [(1, 3)])], "... ... .1.")
        self.looks([(1, 3, [(-1, -1)])], "1.. ... ...")
        self.looks([(1, 2, [(-1, -1)])], "... ... ...")
        self.looks([(1, 2, [(-2, 1)])], "... ... ...")

    def test_how_far_dabs_reach(self):
        for brush in range(17):
            for off in range(1, 11):
                for place in ((-off, 4), (8 + off, 4), (4, -off), (4, 6 + off), (-off, -off), (8 + off, 6 + off)):
                    self.holds(9, 7, [(1, brush, [place])])

    def test_dabs_of_straights_off_the_sheet(self):
        for brush in (0, 1, 2, 3, 15, 16):
            self.holds(20, 20, [(1, brush, [(-8, -3), (-8, 30)]), (2, brush, [(26, -40), (27, 60)])])
            self.holds(20, 20, [(1, brush, [(-3, -8), (30, -7)]), (2, brush, [(-40, 27), (60, 26)])])
            self.holds(20, 20, [(1, brush, [(-25, 9), (9, -25)])])

    def test_far_straights(self):
        edges = (-999, -500, -1, 0, 7, 998, 999)
        chosen = random.Random(4)
        for turn in range(60):
            start, end = [(chosen.choice(edges), chosen.choice(edges)) for place in range(2)]
            self.holds(12, 11, [(1, chosen.choice((0, 3, 16)), [start, end])])
        self.holds(12, 11, [(1, 0, [(-999, -999), (999, 999)]), (2, 0, [(-994, 999), (999, -990)])])


class OverOneAnother(Inked):

    def test_the_later_one_is_seen(self):
        self.looks([(1, 0, [(0, 1), (2, 1)]), (2, 0, [(1, 0), (1, 2)])], ".2. 121 .2.")
        self.looks([(2, 0, [(1, 0), (1, 2)]), (1, 0, [(0, 1), (2, 1)])], ".2. 111 .2.")
        self.looks([(3, 3, [(1, 1)]), (1, 2, [(1, 1)]), (2, 0, [(1, 1)])], "313 121 313")
        self.looks([(2, 0, [(1, 1)]), (1, 2, [(1, 1)]), (3, 3, [(1, 1)])], "333 333 333")

    def test_least_and_greatest_paint(self):
        text = drawing_text(2, 1, [(255, 0, [(0, 0), (1, 0)]), (1, 0, [(1, 0)])])
        self.assertEqual(inked(as_bytes(text)), [2, 255, 1])

    def test_one_stroke_over_itself(self):
        self.looks([(5, 0, [(0, 0), (2, 2), (2, 0), (0, 2)])], "5.5 .55 5.5")

    def test_by_chance(self):
        chosen = random.Random(7)
        for turn in range(150):
            width, height = chosen.randint(1, 24), chosen.randint(1, 24)
            reach = chosen.choice((0, 4, 12, 60))
            strokes = [
                (chosen.randint(1, 255), chosen.randint(0, 16),
                 [(chosen.randint(-reach, width + reach), chosen.randint(-reach, height + reach))
                  for place in range(chosen.randint(1, 5))])
                for stroke in range(chosen.randint(0, 5))
            ]
            self.holds(width, height, strokes)

    def test_greatest_sheet(self):
        self.holds(256, 256, [(9, 16, [(-4, 250), (255, 255)]), (8, 3, [(250, -3), (255, 9)])])


class Most(Inked):

    def test_most_strokes_and_places(self):
        # From corner to corner and back, by far: only the last stroke's paint is seen.
        strokes = [(paint, 16, [(-999, -999), (999, 999)] * 32) for paint in range(1, 65)]
        points = [64 if abs(k % 256 - k // 256) <= 11 else 0 for k in range(65536)]
        once = inked_points(40, 40, [(64, 16, [(-20, -20), (60, 60)])])
        self.assertEqual([points[y * 256 + x] for y in range(40) for x in range(40)], once)
        assert_same(self, inked(as_bytes(drawing_text(256, 256, strokes))), [65536] + points)

    def test_greatest_text(self):
        assert_same(self, inked(as_bytes(greatest_text())), [65536] + [0] * 65536)


class Refused(unittest.TestCase):

    def test_no_drawing(self):
        for text in ("", "drawing", "drawing a 0 1\n", "drawing a 257 1\n", EVERYDAY[:-1], EVERYDAY + "\n",
                     "drawing a 9 9\n" + stroke_line("b") * 2, "drawing a 9 9\nstroke b 1 17 0,0\n",
                     "drawing a 9 9\nstroke b 0 0 0,0\n", " " * 65536):
            self.assertEqual(inked(as_bytes(text)), [-6])

    def test_too_long(self):
        for text in (" " * 65537, greatest_text() + "\n" * 25000):
            self.assertEqual(inked(as_bytes(text)), [-2])

    def test_wrong_fills_are_no_matter(self):
        text = drawing_text(2, 1, [(3, 0, [(0, 0)])], [(1, 0, 0), (1, 1, 0), (1, 1, 0)])
        self.assertEqual(inked(as_bytes(text)), [2, 3, 0])

    def test_handed_in_is_as_it_was(self):
        for text in (EVERYDAY, EVERYDAY[:-1], " " * 65537, drawing_text(9, 9, [(3, 5, [(0, 0), (9, 9)])])):
            t = as_bytes(text)
            first = inked(t)
            self.assertEqual(t, as_bytes(text))
            self.assertEqual(inked(t), first)


if __name__ == "__main__":
    unittest.main()
