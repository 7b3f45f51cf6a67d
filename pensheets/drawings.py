"""Drawings: each call answers what the drawing of a text holds, or refuses."""

from pensheets.inking import along, ink, steps_between
from pensheets.reading import FARTHEST, NoDrawing, TooLong, read_drawing


# Refused by -4.
class NoSuch(Exception):
    pass


# Refused by -8: of the first fill that's wrong the kind and the number.
class NotRight(Exception):

    def __init__(self, kind, number):
        self.kind = kind
        self.number = number


# Refused by -3.
class NoneThere(Exception):
    pass


# What ask answers of the text's drawing, or the refusal: its number alone.
def answer(t, ask):
    try:
        return ask(read_drawing(t))
    except TooLong:
        return [-2]
    except NoDrawing:
        return [-6]
    except NoSuch:
        return [-4]
    except NotRight:
        return [-8]
    except NoneThere:
        return [-3]


def judge(t):
    try:
        read_drawing(t)
    except TooLong:
        return [-2]
    except NoDrawing as refusal:
        return [-6, refusal.fault]
    return [0]


def sizes_of(drawing):
    places = sum([len(one.places) for one in drawing.strokes])
    return [drawing.width, drawing.height, len(drawing.strokes), len(drawing.fills), places]


def sizes(t):
    return answer(t, sizes_of)


def one_of(values, i):
    if i >= len(values):
        raise NoSuch()
    return values[i]


def name_of(drawing, k):
    label = drawing.label if k == 0 else one_of(drawing.strokes, k - 1).label
    return [len(label)] + label


def name(k, t):
    return answer(t, lambda drawing: name_of(drawing, k))


def stroke_of(drawing, i):
    found = one_of(drawing.strokes, i)
    return [found.paint, found.brush, len(found.places)]


def stroke(i, t):
    return answer(t, lambda drawing: stroke_of(drawing, i))


def place(i, k, t):
    return answer(t, lambda drawing: list(one_of(one_of(drawing.strokes, i).places, k)))


def fill(i, t):
    return answer(t, lambda drawing: list(one_of(drawing.fills, i)))


def points_of(sheet):
    return [len(sheet.paints)] + sheet.paints


def inked(t):
    return answer(t, lambda drawing: points_of(ink(drawing)))


# The region of each fill, on the inked sheet, if the drawing is right.
def right_regions(drawing, sheet):
    regions = []
    before = {}
    for number, told in enumerate(drawing.fills):
        point = sheet.number_of(told[1], told[2])
        if not sheet.is_clear(point):
            raise NotRight(1, number)
        found = sheet.region_from(point)
        if sheet.points_at_edge(found) != []:
            raise NotRight(2, number)
        if point in before:
            raise NotRight(3, number)
        for one in found:
            before[one] = True
        regions.append(found)
    return regions


def check_of(drawing):
    try:
        right_regions(drawing, ink(drawing))
    except NotRight as refusal:
        return [-8, refusal.kind, refusal.number]
    return [0]


def check(t):
    return answer(t, check_of)


def painted_of(drawing):
    sheet = ink(drawing)
    for told, found in zip(drawing.fills, right_regions(drawing, sheet)):
        sheet.put(told[0], found)
    return points_of(sheet)


def painted(t):
    return answer(t, painted_of)


# The point of a fill that has a region.
def clear_point(sheet, told):
    point = sheet.number_of(told[1], told[2])
    if not sheet.is_clear(point):
        raise NoneThere()
    return point


def region_of(drawing, i):
    told = one_of(drawing.fills, i)
    sheet = ink(drawing)
    found = sheet.region_from(clear_point(sheet, told))
    leaks = 0 if sheet.points_at_edge(found) == [] else 1
    xs = [sheet.x_of(one) for one in found]
    ys = [sheet.y_of(one) for one in found]
    return [len(found), leaks, min(xs), min(ys), max(xs), max(ys)]


def region(i, t):
    return answer(t, lambda drawing: region_of(drawing, i))


def way_of(drawing, i):
    told = one_of(drawing.fills, i)
    sheet = ink(drawing)
    points = sheet.way_from(clear_point(sheet, told))
    if points == []:
        raise NoneThere()
    return points


def way(i, t):
    return answer(t, lambda drawing: way_of(drawing, i))


def straight(x, y, u, v):
    if any([abs(told) > FARTHEST for told in (x, y, u, v)]):
        return [-1]
    n = steps_between((x, y), (u, v))
    numbers = []
    for i in range(n + 1):
        numbers.extend([along(x, u, i, n), along(y, v, i, n)])
    return numbers
