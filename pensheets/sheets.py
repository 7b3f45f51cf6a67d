"""Sheets: their points, what lies beside what, regions and ways out of them."""


# A point is told by its number, but where x and y are handed over.
class Sheet:

    def __init__(self, width, height):
        self.width = width
        self.height = height
        self.paints = [0] * (width * height)

    def number_of(self, x, y):
        return y * self.width + x

    def x_of(self, point):
        return point % self.width

    def y_of(self, point):
        return point // self.width

    def is_clear(self, point):
        return self.paints[point] == 0

    def is_at_edge(self, point):
        return self.x_of(point) in (0, self.width - 1) or self.y_of(point) in (0, self.height - 1)

    # Those of the points that are at the edge.
    def points_at_edge(self, points):
        return [point for point in points if self.is_at_edge(point)]

    # The upper, right, lower, left one, as far as they're on the sheet.
    def points_beside(self, point):
        found = []
        if self.y_of(point) > 0:
            found.append(point - self.width)
        if self.x_of(point) < self.width - 1:
            found.append(point + 1)
        if self.y_of(point) < self.height - 1:
            found.append(point + self.width)
        if self.x_of(point) > 0:
            found.append(point - 1)
        return found

    # How few steps over clear points lead to each that's reached from the starts, which are clear too.
    def steps_from(self, starts):
        steps = {}
        for point in starts:
            steps[point] = 0
        reached = list(starts)
        gone_from = 0
        while gone_from < len(reached):
            point = reached[gone_from]
            for near in self.points_beside(point):
                if self.is_clear(near) and near not in steps:
                    steps[near] = steps[point] + 1
                    reached.append(near)
            gone_from += 1
        return steps

    # All that's reached from a clear point.
    def region_from(self, point):
        return list(self.steps_from([point]))

    # The way out of a clear point's region; without any point if the region doesn't leak.
    def way_from(self, point):
        # Ways are the same either way round: so many steps are left as lead there from the edge.
        left = self.steps_from(self.points_at_edge(self.region_from(point)))
        way = [point] if point in left else []
        while way != [] and left[way[-1]] > 0:
            fewer = [near for near in self.points_beside(way[-1]) if near in left and left[near] < left[way[-1]]]
            way.append(fewer[0])
        return way

    def put(self, paint, points):
        for point in points:
            self.paints[point] = paint
