"""What a rule that fits writes, and where that came from."""

from respelling.parts import CURSOR, MAPPED, PUT


class Written:
    def __init__(self, row, cursor):
        self.row = row
        self.cursor = cursor


def write(fit, left, right, maps):
    points = []
    cursor = None
    for item in fit.rule.writers:
        if item[0] == CURSOR:
            cursor = len(points)
        else:
            points.extend(points_of(item, fit.bounds, right, maps))
    came_from = span_of(right[:fit.bounds[-1]], left)
    row = [(point, came_from[0], came_from[1]) for point in points]
    return Written(row, len(row) if cursor is None else cursor)


def points_of(item, bounds, right, maps):
    kind = item[0]
    if kind == PUT:
        return [item[1]]
    k = item[1]
    points = [spot[0] for spot in right[bounds[k]:bounds[k + 1]]]
    if kind == MAPPED:
        table = maps[item[2]]
        return [table.get(point, point) for point in points]
    return points


def span_of(taken, left):
    if len(taken) > 0:
        return (min([spot[1] for spot in taken]), max([spot[2] for spot in taken]))
    if len(left) > 0:
        return (left[-1][2], left[-1][2])
    return (0, 0)
