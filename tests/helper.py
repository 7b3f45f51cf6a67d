"""What the tests share: drawings' texts, and faults, ink and regions by their definitions, without the program."""

import fractions
import functools
import re

SIGNS = "abcdefghijklmnopqrstuvwxyz0123456789"
NAME = "[a-z][a-z0-9]{0,15}"
NUMBER = "(?:0|-?[1-9][0-9]*)"
DRAWING = re.compile(
    f"drawing {NAME} ({NUMBER}) ({NUMBER})\n"
    f"((?:stroke {NAME} {NUMBER} {NUMBER}(?: {NUMBER},{NUMBER})+\n)*)"
    f"((?:fill {NUMBER} {NUMBER},{NUMBER}\n)*)"
)

EVERYDAY = (
    "drawing cel 12 256\n"
    "stroke rim 1 0 0,0 -9,10\n"
    "stroke rim2 255 16 -999,999\n"
    "fill 9 11,255\n"
    "fill 10 0,0\n"
)


def as_bytes(text):
    return list(text.encode("latin-1"))


def assert_same(case, found, asked, told=""):
    """As assertEqual of two lists, but of long ones it doesn't seek all differences, for hours."""
    if found != asked:
        at = next((k for k, (one, other) in enumerate(zip(found, asked)) if one != other), min(len(found), len(asked)))
        one, other = str(found[at:at + 20])[:900], str(asked[at:at + 20])[:900]
        case.fail(f"from {at} on {one}, not {other}: {str(told)[:2000]}")


def stroke_line(name, paint=1, brush=0, places=((0, 0),)):
    told = "".join(f" {x},{y}" for x, y in places)
    return f"stroke {name} {paint} {brush}{told}\n"


def stroke_lines(count):
    return "".join(stroke_line(f"s{i}") for i in range(count))


def fill_lines(count):
    return "fill 1 0,0\n" * count


def greatest_text():
    """A drawing's text than which none is longer."""
    places = ((-999, -999),) * 64
    strokes = "".join(stroke_line(f"abcdefghijklmn{i}", 255, 16, places) for i in range(10, 74))
    return "drawing abcdefghijklmnop 256 256\n" + strokes + "fill 255 255,255\n" * 64


def stroke_holds(line):
    word, name, paint, brush, *places = line.split(" ")
    near = all(-999 <= int(told) <= 999 for place in places for told in place.split(","))
    return 1 <= int(paint) <= 255 and 0 <= int(brush) <= 16 and len(places) <= 64 and near


def fill_holds(line, width, height):
    word, paint, point = line.split(" ")
    x, y = point.split(",")
    return 1 <= int(paint) <= 255 and 0 <= int(x) < width and 0 <= int(y) < height


def is_drawing(text):
    found = DRAWING.fullmatch(text)
    if found is None:
        return False
    width, height = int(found[1]), int(found[2])
    strokes, fills = found[3].splitlines(), found[4].splitlines()
    names = [line.split(" ")[1] for line in strokes]
    return (
        1 <= width <= 256 and 1 <= height <= 256
        and len(strokes) <= 64 and len(fills) <= 64 and len(set(names)) == len(names)
        and all(stroke_holds(line) for line in strokes)
        and all(fill_holds(line, width, height) for line in fills)
    )


def endings_of(text):
    return [text[i:] for i in range(len(text))]


# More tails than there may be names: one of them makes of any 14 signs or fewer a name that's new.
TAILS = [""] + list(SIGNS) + ["0" + sign for sign in SIGNS]
SHORT_ENDINGS = (
    [""] + endings_of("drawing a 1 1\n") + endings_of("fill 1 0,0\n")
    + endings_of(" 1 0 0,0\n") + ["1,0\n", "1\n"]
)


def endings(begin):
    """Endings among which is one that makes a drawing's text of this beginning, if any ending does."""
    used = re.findall("stroke ([a-z0-9]+) ", begin)
    new = next("a" + tail for tail in TAILS if "a" + tail not in used)
    yield from SHORT_ENDINGS
    yield from endings_of(f"stroke {new} 1 0 0,0\n")
    for tail in TAILS:
        yield tail + " 1 0 0,0\n"


@functools.lru_cache(maxsize=None)
def begins_a_drawing(begin):
    return any(is_drawing(begin + ending) for ending in endings(begin))


def fault(text):
    """The fault by its definition; what begins with a beginning of no drawing's text is none either."""
    length = 0
    while length < len(text) and begins_a_drawing(text[:length + 1]):
        length += 1
    return length


def verdict(text):
    return [0] if is_drawing(text) else [-6, fault(text)]


def drawing_text(width, height, strokes=(), fills=()):
    """Strokes are (paint, brush, places), fills (paint, x, y)."""
    told = "".join(stroke_line(f"s{i}", *stroke) for i, stroke in enumerate(strokes))
    return f"drawing d {width} {height}\n{told}" + "".join(f"fill {p} {x},{y}\n" for p, x, y in fills)


def nearest(value):
    """The whole number nearest to a fraction, the greater one of two that are as near."""
    below = value.numerator // value.denominator
    return max((below, below + 1), key=lambda whole: (-abs(value - whole), whole))


def straight_places(start, end):
    (x, y), (u, v) = start, end
    n = max(abs(u - x), abs(v - y))
    if n == 0:
        return [start]
    return [(x + nearest(fractions.Fraction(i * (u - x), n)), y + nearest(fractions.Fraction(i * (v - y), n)))
            for i in range(n + 1)]


def dab_places(places):
    if len(places) == 1:
        return set(places)
    return {place for start, end in zip(places, places[1:]) for place in straight_places(start, end)}


def inked_points(width, height, strokes):
    """The inked sheet by its definition: each point is asked whether it's in one of a stroke's dabs."""
    points = [0] * (width * height)
    for paint, brush, places in strokes:
        near = [(x, y) for x, y in dab_places(places) if -8 <= x < width + 8 and -8 <= y < height + 8]
        for number in range(width * height):
            px, py = number % width, number // width
            if any(4 * ((px - x) ** 2 + (py - y) ** 2) <= brush ** 2 for x, y in near):
                points[number] = paint
    return points


def beside(x, y):
    """The upper, right, lower, left point."""
    return [(x, y - 1), (x + 1, y), (x, y + 1), (x - 1, y)]


def region_points(width, height, points, x, y):
    """The region by its definition: what's beside is added again and again until nothing is new."""
    clear = {(k % width, k // width) for k in range(width * height) if points[k] == 0}
    region = {(x, y)}
    while True:
        grown = region | {near for a, b in region for near in beside(a, b)} & clear
        if grown == region:
            return region
        region = grown


def checked(width, height, strokes, fills):
    points = inked_points(width, height, strokes)
    before = []
    for number, (paint, x, y) in enumerate(fills):
        if points[y * width + x] != 0:
            return [-8, 1, number]
        region = region_points(width, height, points, x, y)
        if any(is_out(width, height, a, b) for a, b in region):
            return [-8, 2, number]
        if region in before:
            return [-8, 3, number]
        before.append(region)
    return [0]


def is_out(width, height, x, y):
    return x in (0, width - 1) or y in (0, height - 1)


def region_told(width, height, strokes, fill):
    """What's asked of a fill's region: its six numbers, or -3."""
    points = inked_points(width, height, strokes)
    paint, x, y = fill
    if points[y * width + x] != 0:
        return [-3]
    region = region_points(width, height, points, x, y)
    leaks = any(is_out(width, height, a, b) for a, b in region)
    xs, ys = [a for a, b in region], [b for a, b in region]
    return [len(region), int(leaks), min(xs), min(ys), max(xs), max(ys)]


def painted_points(width, height, strokes, fills):
    """The painted sheet of a right drawing: each fill's region is sought in the inked one."""
    points = inked_points(width, height, strokes)
    painted = list(points)
    for paint, x, y in fills:
        for a, b in region_points(width, height, points, x, y):
            painted[b * width + a] = paint
    return painted


def way_told(width, height, strokes, fill):
    """What's asked of the way out: its points' numbers, or -3. The region is laid in layers, by steps from the edge."""
    points = inked_points(width, height, strokes)
    paint, x, y = fill
    if points[y * width + x] != 0:
        return [-3]
    rest = region_points(width, height, points, x, y)
    layer = {(a, b) for a, b in rest if is_out(width, height, a, b)}
    layers = []
    while layer and (x, y) not in layer:
        layers.append(layer)
        rest -= layer
        layer = {near for a, b in layer for near in beside(a, b)} & rest
    if not layer:
        return [-3]
    way = [(x, y)]
    for layer in reversed(layers):
        way.append(next(near for near in beside(*way[-1]) if near in layer))
    return [b * width + a for a, b in way]


def led(width, x, y, directions):
    """The numbers of the points from (x, y) on: U leads to the upper one, R right, D down, L left."""
    numbers = [y * width + x]
    for direction in directions:
        numbers.append(numbers[-1] + {"U": -width, "R": 1, "D": width, "L": -1}[direction])
    return numbers


def winding_walls(rows):
    """Strokes that enclose a passage from row 1 to row rows - 1 (rows is even): walls that leave a gap at the right and
    at the left in turn, and last a rim around."""
    left = [place for y in range(2, rows, 4) for place in ((0, y), (253, y), (0, y))]
    right = [place for y in range(4, rows, 4) for place in ((255, y), (2, y), (255, y))]
    walls = [(1, 0, comb[k:k + 63]) for comb in (left, right) for k in range(0, len(comb), 63)]
    return walls + [(1, 0, [(0, 0), (255, 0), (255, rows), (0, rows), (0, 0)])]


def picture_text(picture):
    """A drawing whose inked sheet looks so: # is ink, each run of it a stroke; 0 to 9 are fills by their numbers."""
    rows = picture.split()
    strokes, fills = [], []
    for y, row in enumerate(rows):
        strokes += [(1, 0, [(run.start(), y), (run.end() - 1, y)]) for run in re.finditer("#+", row)]
        fills += [(sign, x, y) for x, sign in enumerate(row) if sign.isdigit()]
    told = [(int(sign) + 1, x, y) for sign, x, y in sorted(fills)]
    return drawing_text(len(rows[0]), len(rows), strokes, told)
