"""Sheets: what lies beside a point, and regions, at the edges too, where check stops asking."""

import random
import unittest

from helper import region_points
from pensheets.sheets import Sheet


def sheet_of(width, height, points):
    sheet = Sheet(width, height)
    sheet.paints = points
    return sheet


class Beside(unittest.TestCase):

    def test_upper_right_lower_left(self):
        self.assertEqual(Sheet(3, 3).points_beside(4), [1, 5, 7, 3])

    def test_at_the_edge(self):
        sheet = Sheet(3, 2)
        asked = [[1, 3], [2, 4, 0], [5, 1], [0, 4], [1, 5, 3], [2, 4]]
        self.assertEqual([sheet.points_beside(point) for point in range(6)], asked)

    def test_narrow_sheets(self):
        self.assertEqual(Sheet(1, 1).points_beside(0), [])
        self.assertEqual([Sheet(1, 3).points_beside(point) for point in range(3)], [[1], [0, 2], [1]])
        self.assertEqual([Sheet(3, 1).points_beside(point) for point in range(3)], [[1], [2, 0], [1]])


class Regions(unittest.TestCase):

    def test_all_that_is_reached_and_nothing_else(self):
        chosen = random.Random(3)
        for turn in range(200):
            width, height = chosen.randint(1, 9), chosen.randint(1, 9)
            points = [chosen.choice((0, 0, 7)) for point in range(width * height)]
            sheet = sheet_of(width, height, list(points))
            regions = []
            for point in range(width * height):
                if points[point] == 0:
                    found = sheet.region_from(point)
                    asked = region_points(width, height, points, point % width, point // width)
                    self.assertEqual(sorted(found), sorted(y * width + x for x, y in asked))
                    regions.append(set(found))
            for one in regions:
                for other in regions:
                    self.assertTrue(one == other or not one & other)
            self.assertEqual(sheet.paints, points)


if __name__ == "__main__":
    unittest.main()
