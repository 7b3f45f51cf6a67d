"""Drawings: each call answers what the drawing of a text holds, or refuses."""

from pensheets.inking import ink
from pensheets.reading import NoDrawing, TooLong, read_drawing


# Refused by -4.
class NoSuch(Exception):
    pass


# Refused by -8: of the first fill that's wrong the kind and the number.
class NotRight(Exception):

    def __init__(self, kind, number):
        self.kind = kind
        self.number = number


# What ask answers of the text's drawing, or the refusal: its number alone.
def answer(t, ask):
    try:
        return ask(read_drawing(t))
    except TooLong:
        return [-2]
    except NoDrawing:
        return [-6]
    except NoSuch:
        return [-4]


def judge(t):
    try:
        read_drawing(t)
    except TooLong:
        return [-2]
    except NoDrawing as refusal:
        return [-6, refusal.fault]
    return [0]


def sizes_of(drawing):
    places = sum([len(one.places) for one in drawing.strokes])
    return [drawing.width, drawing.height, len(drawing.strokes), len(drawing.fills), places]


def sizes(t):
    return answer(t, sizes_of)


def one_of(values, i):
    if i >= len(values):
        raise NoSuch()
    return values[i]


def name_of(drawing, k):
    label = drawing.label if k == 0 else one_of(drawing.strokes, k - 1).label
    return [len(label)] + label


def name(k, t):
    return answer(t, lambda drawing: name_of(drawing, k))


def stroke_of(drawing, i):
    found = one_of(drawing.strokes, i)
    return [found.paint, found.brush, len(found.places)]


def stroke(i, t):
    return answer(t, lambda drawing: stroke_of(drawing, i))


def place(i, k, t):
    return answer(t, lambda drawing: list(one_of(one_of(drawing.strokes, i).places, k)))


def fill(i, t):
    return answer(t, lambda drawing: list(one_of(drawing.fills, i)))


def inked_of(drawing):
    paints = ink(drawing).paints
    return [len(paints)] + paints


def inked(t):
    return answer(t, inked_of)


def refuse_wrong_fills(drawing, sheet):
    before = {}
    for number, told in enumerate(drawing.fills):
        point = sheet.number_of(told[1], told[2])
        if sheet.paints[point] != 0:
            raise NotRight(1, number)
        found = sheet.region_from(point)
        if any([sheet.is_at_edge(one) for one in found]):
            raise NotRight(2, number)
        if point in before:
            raise NotRight(3, number)
        for one in found:
            before[one] = True


def check_of(drawing):
    try:
        refuse_wrong_fills(drawing, ink(drawing))
    except NotRight as refusal:
        return [-8, refusal.kind, refusal.number]
    return [0]


def check(t):
    return answer(t, check_of)
