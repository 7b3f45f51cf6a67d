"""Inking: the strokes of a drawing are put on the clear sheet."""

from pensheets.sheets import Sheet

# From farther off no dab reaches the sheet: half of the greatest brush.
MARGIN = 8


# How many steps a straight has.
def steps_between(start, end):
    return max(abs(end[0] - start[0]), abs(end[1] - start[1]))


# Where a straight of n steps that goes from start to end is after i of them, in x or in y.
def along(start, end, i, n):
    if n == 0:
        return start
    return start + (2 * i * (end - start) + n) // (2 * n)


# The places of a stroke's dabs are marked as bits, so that all of a row are spread at once:
# bit x + MARGIN of row y + MARGIN is the place (x, y).
def mark_straight(rows, width, start, end):
    n = steps_between(start, end)
    i = 0
    while i <= n:
        bit = along(start[0], end[0], i, n) + MARGIN
        row = along(start[1], end[1], i, n) + MARGIN
        off = max(-bit, bit - (width + 2 * MARGIN - 1), -row, row - (len(rows) - 1))
        if off <= 0:
            rows[row] |= 1 << bit
        # A step leads one farther at most: from where it's off by more, no fewer lead back.
        i += max(off, 1)


def marked_rows(places, width, height):
    rows = [0] * (height + 2 * MARGIN)
    # The first place is a straight by itself too: a stroke may have no other one.
    for start, end in zip(places[:1] + places, places):
        mark_straight(rows, width, start, end)
    return rows


# Of each row of a dab, from MARGIN above its place to MARGIN below: how many a from 0 on it has.
def dab_reaches(brush):
    reaches = []
    for b in range(-MARGIN, MARGIN + 1):
        reaches.append(len([a for a in range(MARGIN + 1) if 4 * (a * a + b * b) <= brush * brush]))
    return reaches


def spread(bits, reach):
    wide = 0
    for a in range(reach):
        wide |= (bits << a) | (bits >> a)
    return wide


# Which points of the sheet's row y are in dabs: bit x is the point (x, y).
def bits_in_dabs(rows, reaches, y):
    wide = 0
    # Row k of these lies as far from y as row k of a dab from its place; a dab's rows are the
    # same above and below.
    for k, reach in enumerate(reaches):
        wide |= spread(rows[y + k], reach)
    return wide >> MARGIN


def ink_stroke(sheet, told):
    rows = marked_rows(told.places, sheet.width, sheet.height)
    reaches = dab_reaches(told.brush)
    for y in range(sheet.height):
        bits = bits_in_dabs(rows, reaches, y)
        for x in range(sheet.width):
            if (bits >> x) & 1 == 1:
                sheet.paints[sheet.number_of(x, y)] = told.paint


# The inked sheet of a drawing.
def ink(drawing):
    sheet = Sheet(drawing.width, drawing.height)
    for told in drawing.strokes:
        ink_stroke(sheet, told)
    return sheet
