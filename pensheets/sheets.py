"""Sheets: their points, what lies beside what, and regions."""


# A point is told by its number, but where x and y are handed over.
class Sheet:

    def __init__(self, width, height):
        self.width = width
        self.height = height
        self.paints = [0] * (width * height)

    def number_of(self, x, y):
        return y * self.width + x

    def is_at_edge(self, point):
        return point % self.width in (0, self.width - 1) or point // self.width in (0, self.height - 1)

    # The upper, right, lower, left one, as far as they're on the sheet.
    def points_beside(self, point):
        found = []
        if point // self.width > 0:
            found.append(point - self.width)
        if point % self.width < self.width - 1:
            found.append(point + 1)
        if point // self.width < self.height - 1:
            found.append(point + self.width)
        if point % self.width > 0:
            found.append(point - 1)
        return found

    # All that's reached from a clear point.
    def region_from(self, point):
        reached = [point]
        known = {point: True}
        gone_from = 0
        while gone_from < len(reached):
            for near in self.points_beside(reached[gone_from]):
                if self.paints[near] == 0 and near not in known:
                    known[near] = True
                    reached.append(near)
            gone_from += 1
        return reached
