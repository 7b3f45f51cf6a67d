"""straight: its places one by one, the same either way round, and what it refuses."""

import fractions
import itertools
import random
import unittest

from helper import as_bytes, assert_same, drawing_text, straight_places
from pensheets.drawings import inked, straight

FAR = (-999, -998, -500, -1, 0, 1, 500, 998, 999)


def places(x, y, u, v):
    numbers = straight(x, y, u, v)
    return list(zip(numbers[::2], numbers[1::2]))


class Straight(unittest.TestCase):

    def goes(self, x, y, u, v, asked):
        assert_same(self, straight(x, y, u, v), [number for place in asked for number in place], (x, y, u, v))

    def holds(self, x, y, u, v):
        self.goes(x, y, u, v, straight_places((x, y), (u, v)))


class Places(Straight):

    def test_one_place(self):
        for x, y in ((0, 0), (5, 7), (-1, 3), (-999, -999), (999, -999), (999, 999)):
            self.assertEqual(straight(x, y, x, y), [x, y])

    def test_two_places(self):
        for u, v in ((0, -1), (1, -1), (1, 0), (1, 1), (0, 1), (-1, 1), (-1, 0), (-1, -1)):
            self.assertEqual(straight(0, 0, u, v), [0, 0, u, v])
            self.assertEqual(straight(-1, -2, u - 1, v - 2), [-1, -2, u - 1, v - 2])

    def test_level_upright_and_slanting(self):
        for c, d in ((0, -1), (1, -1), (1, 0), (1, 1), (0, 1), (-1, 1), (-1, 0), (-1, -1)):
            self.goes(3, -2, 3 + 7 * c, -2 + 7 * d, [(3 + i * c, -2 + i * d) for i in range(8)])

    def test_flat(self):
        self.goes(0, 0, 5, 2, [(0, 0), (1, 0), (2, 1), (3, 1), (4, 2), (5, 2)])
        self.goes(0, 0, 5, -2, [(0, 0), (1, 0), (2, -1), (3, -1), (4, -2), (5, -2)])
        self.goes(0, 0, -5, 2, [(0, 0), (-1, 0), (-2, 1), (-3, 1), (-4, 2), (-5, 2)])
        self.goes(0, 0, -5, -2, [(0, 0), (-1, 0), (-2, -1), (-3, -1), (-4, -2), (-5, -2)])
        self.goes(10, 20, 13, 21, [(10, 20), (11, 20), (12, 21), (13, 21)])

    def test_steep(self):
        self.goes(0, 0, 2, 5, [(0, 0), (0, 1), (1, 2), (1, 3), (2, 4), (2, 5)])
        self.goes(0, 0, 2, -5, [(0, 0), (0, -1), (1, -2), (1, -3), (2, -4), (2, -5)])
        self.goes(0, 0, -2, 5, [(0, 0), (0, 1), (-1, 2), (-1, 3), (-2, 4), (-2, 5)])
        self.goes(0, 0, -2, -5, [(0, 0), (0, -1), (-1, -2), (-1, -3), (-2, -4), (-2, -5)])

    def test_of_two_that_are_as_near_the_greater(self):
        self.goes(0, 0, 2, 1, [(0, 0), (1, 1), (2, 1)])
        self.goes(0, 0, 2, -1, [(0, 0), (1, 0), (2, -1)])
        self.goes(0, 0, -2, 1, [(0, 0), (-1, 1), (-2, 1)])
        self.goes(0, 0, -2, -1, [(0, 0), (-1, 0), (-2, -1)])
        self.goes(0, 0, 1, 2, [(0, 0), (1, 1), (1, 2)])
        self.goes(0, 0, -1, 2, [(0, 0), (0, 1), (-1, 2)])
        self.goes(0, 0, 1, -2, [(0, 0), (1, -1), (1, -2)])
        self.goes(0, 0, -1, -2, [(0, 0), (0, -1), (-1, -2)])
        self.goes(-5, -5, 1, -2, [(-5, -5), (-4, -4), (-3, -4), (-2, -3), (-1, -3), (0, -2), (1, -2)])

    def test_the_first_number_may_be_below_0(self):
        # As numbers alone these begin like refusals.
        for x in (-1, -2, -3, -4, -6, -8):
            self.assertEqual(straight(x, 0, x, 0), [x, 0])
            self.assertEqual(straight(x, 5, x + 1, 5), [x, 5, x + 1, 5])

    def test_all_around(self):
        for u, v in itertools.product(range(-9, 10), repeat=2):
            self.holds(0, 0, u, v)
            self.holds(-3, 4, u - 3, v + 4)

    def test_from_corner_to_corner(self):
        self.goes(-999, -999, 999, 999, [(k, k) for k in range(-999, 1000)])
        self.goes(999, 999, -999, -999, [(k, k) for k in range(999, -1000, -1)])
        self.goes(-999, 999, 999, -999, [(k, -k) for k in range(-999, 1000)])

    def test_far(self):
        chosen = random.Random(23)
        for turn in range(40):
            self.holds(*[chosen.choice(FAR) for number in range(4)])
        self.holds(-999, -999, 999, 998)
        self.holds(-999, 999, -998, -999)

    def test_as_inked(self):
        for u, v in itertools.product((0, 1, 4, 7, 8, 12), repeat=2):
            points = inked(as_bytes(drawing_text(13, 13, [(1, 0, [(5, 6), (u, v)])])))[1:]
            ink = [(k % 13, k // 13) for k in range(169) if points[k] == 1]
            self.assertEqual(sorted(places(5, 6, u, v)), sorted(ink))


class Promised(Straight):

    def keeps(self, x, y, u, v):
        found = places(x, y, u, v)
        n = max(abs(u - x), abs(v - y))
        self.assertEqual(len(straight(x, y, u, v)), 2 * (n + 1))
        self.assertEqual((found[0], found[-1]), ((x, y), (u, v)))
        self.assertEqual(places(u, v, x, y), found[::-1])
        for i, (a, b) in enumerate(found):
            self.assertLessEqual(abs(a - x - fractions.Fraction(i * (u - x), max(n, 1))), fractions.Fraction(1, 2))
            self.assertLessEqual(abs(b - y - fractions.Fraction(i * (v - y), max(n, 1))), fractions.Fraction(1, 2))
        for (a, b), (c, d) in zip(found, found[1:]):
            self.assertEqual(max(abs(c - a), abs(d - b)), 1)

    def test_all_around(self):
        for u, v in itertools.product(range(-8, 9), repeat=2):
            self.keeps(0, 0, u, v)

    def test_by_chance(self):
        chosen = random.Random(29)
        for turn in range(200):
            self.keeps(*[chosen.randint(-60, 60) for number in range(4)])
        for turn in range(10):
            self.keeps(*[chosen.randint(-999, 999) for number in range(4)])
        for turn in range(10):
            self.keeps(*[chosen.choice(FAR) for number in range(4)])

    def test_either_way_round(self):
        chosen = random.Random(31)
        for turn in range(150):
            x, y, u, v = [chosen.randint(-999, 999) for number in range(4)]
            self.assertEqual(places(u, v, x, y), places(x, y, u, v)[::-1])


class Refused(Straight):

    def test_each_alone(self):
        for at in range(4):
            for number in (-999, -998, 0, 998, 999):
                told = [3, 4, 5, 6]
                told[at] = number
                self.holds(*told)
            for number in (-1000, -1001, 1000, 1001, 10 ** 9, -10 ** 9, 10 ** 60, -10 ** 60):
                told = [3, 4, 5, 6]
                told[at] = number
                self.assertEqual(straight(*told), [-1], told)

    def test_several(self):
        for told in ((1000, 1000, 1000, 1000), (-1000, 0, 0, -1000), (10 ** 60, -10 ** 60, 10 ** 60, -10 ** 60),
                     (10 ** 60, 10 ** 60, 10 ** 60, 10 ** 60), (0, 1000, 1000, 0)):
            self.assertEqual(straight(*told), [-1])

    def test_just_beyond(self):
        self.assertEqual(straight(1000, 5, 1000, 5), [-1])
        self.assertEqual(straight(999, 5, 1000, 5), [-1])


if __name__ == "__main__":
    unittest.main()
