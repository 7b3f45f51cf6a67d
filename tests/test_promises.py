"""What's promised over the whole program, as far as it's seen in several calls together."""

import collections
import random
import unittest

from helper import as_bytes, beside, drawing_text, fault, inked_points, is_out, picture_text, region_points
from pensheets.drawings import check, fill, inked, judge, name, painted, place, region, sizes, straight, stroke, way


def told_again(t):
    """The drawing's text, made of what the calls answer of it."""
    width, height, strokes, fills, places = sizes(t)
    text = f"drawing {bytes(name(0, t)[1:]).decode()} {width} {height}\n"
    for i in range(strokes):
        paint, brush, count = stroke(i, t)
        places -= count
        told = "".join(" {},{}".format(*place(i, k, t)) for k in range(count))
        text += f"stroke {bytes(name(i + 1, t)[1:]).decode()} {paint} {brush}{told}\n"
    text += "".join("fill {} {},{}\n".format(*fill(i, t)) for i in range(fills))
    assert places == 0
    return text


def chosen_drawing(chosen):
    """A small drawing's width, height and strokes; many of them cross, and so enclose regions."""
    width, height = chosen.randint(1, 13), chosen.randint(1, 13)
    strokes = [
        (chosen.randint(1, 255), chosen.choice((0, 0, 0, 1, 2, 3)),
         [(chosen.randint(-1, width), chosen.randint(-1, height)) for place in range(chosen.randint(1, 8))])
        for stroke in range(chosen.randint(0, 5))
    ]
    return width, height, strokes


class OneText(unittest.TestCase):

    def chosen_text(self, chosen):
        width, height, strokes = chosen_drawing(chosen)
        fills = [(chosen.randint(1, 255), chosen.randrange(width), chosen.randrange(height))
                 for fill in range(chosen.randint(0, 3))]
        return drawing_text(width, height, strokes, fills)

    def test_a_drawing_is_told_again_by_the_same_text(self):
        chosen = random.Random(37)
        for turn in range(200):
            text = self.chosen_text(chosen)
            self.assertEqual(told_again(as_bytes(text)), text)

    def test_a_text_with_a_byte_changed_is_another_drawings_or_none(self):
        chosen = random.Random(41)
        kinds = set()
        for turn in range(1500):
            text = self.chosen_text(chosen)
            at = chosen.randrange(len(text))
            changed = text[:at] + chosen.choice("0123456789 ,-\nafz") + text[at + chosen.randint(0, 1):]
            t = as_bytes(changed)
            found = judge(t)
            kinds.add(found[0])
            if found == [0]:
                self.assertEqual(told_again(t), changed)
            else:
                self.assertEqual(found, [-6, fault(changed)])
        self.assertEqual(kinds, {0, -6})


class Ink(unittest.TestCase):

    def test_thin_strokes_are_their_straights(self):
        chosen = random.Random(43)
        for turn in range(60):
            width, height = chosen.randint(1, 20), chosen.randint(1, 20)
            corners = [(chosen.randint(-9, 28), chosen.randint(-9, 28)) for corner in range(chosen.randint(2, 5))]
            ink = set()
            for start, end in zip(corners, corners[1:]):
                numbers = straight(*start, *end)
                ink |= set(zip(numbers[::2], numbers[1::2]))
            asked = [int((k % width, k // width) in ink) for k in range(width * height)]
            self.assertEqual(inked(as_bytes(drawing_text(width, height, [(1, 0, corners)])))[1:], asked)


class Regions(unittest.TestCase):

    def test_closed_just_if_no_way_leads_out(self):
        chosen = random.Random(47)
        kinds = collections.Counter()
        for turn in range(500):
            width, height, strokes = chosen_drawing(chosen)
            points = inked_points(width, height, strokes)
            inner = [k for k in range(width * height) if not is_out(width, height, k % width, k // width)]
            number = chosen.choice([k for k in inner if points[k] == 0] or range(width * height))
            x, y = number % width, number // width
            t = as_bytes(drawing_text(width, height, strokes, [(255, x, y)]))
            self.assertEqual(inked(t)[1:], points)
            if points[number] != 0:
                kinds["ink"] += 1
                self.assertEqual([region(0, t), way(0, t), check(t), painted(t)], [[-3], [-3], [-8, 1, 0], [-8]])
                continue
            reached = region_points(width, height, points, x, y)
            if any(is_out(width, height, a, b) for a, b in reached):
                kinds["leak"] += 1
                self.assertEqual([region(0, t)[:2], check(t), painted(t)], [[len(reached), 1], [-8, 2, 0], [-8]])
                self.leads_out(width, height, x, y, reached, way(0, t))
            else:
                kinds["closed"] += 1
                self.assertEqual([region(0, t)[:2], way(0, t), check(t)], [[len(reached), 0], [-3], [0]])
                asked = [255 if (k % width, k // width) in reached else paint for k, paint in enumerate(points)]
                self.assertEqual(painted(t), [width * height] + asked)
        self.assertGreater(min(kinds[kind] for kind in ("ink", "leak", "closed")), 20)

    def leads_out(self, width, height, x, y, reached, numbers):
        passed = [(number % width, number // width) for number in numbers]
        self.assertEqual(passed[0], (x, y))
        self.assertTrue(is_out(width, height, *passed[-1]))
        self.assertFalse(any(is_out(width, height, *point) for point in passed[:-1]))
        for point, following in zip(passed, passed[1:]):
            self.assertIn(following, beside(*point))
            self.assertIn(following, reached)
        # As short as can be: with one step fewer nothing at the edge is reached.
        near = {(x, y)}
        for step in range(len(numbers) - 2):
            near |= {following for point in near for following in beside(*point)} & reached
        if len(numbers) > 1:
            self.assertFalse(any(is_out(width, height, *point) for point in near))

    def test_the_same_or_no_point_in_common(self):
        picture = "######### #0.#.2#.# #.##.##3# #1####.## #########"
        t = as_bytes(picture_text(picture))
        self.assertEqual(check(t), [-8, 3, 1])
        self.assertEqual([region(i, t)[0] for i in range(4)], [4, 4, 3, 2])
        chosen = random.Random(53)
        several = 0
        for turn in range(80):
            width, height, strokes = chosen_drawing(chosen)
            alone = []
            for k in range(width * height):
                t = as_bytes(drawing_text(width, height, strokes, [(255, k % width, k // width)]))
                if check(t) == [0]:
                    bare = inked(t)
                    alone.append({at for at, paint in enumerate(painted(t)) if paint != bare[at]})
                    self.assertIn(k + 1, alone[-1])
                    self.assertEqual(len(alone[-1]), region(0, t)[0])
            for one in alone:
                for other in alone:
                    self.assertTrue(one == other or not one & other)
            several += any(one != alone[0] for one in alone)
        self.assertGreater(several, 9)


if __name__ == "__main__":
    unittest.main()
