"""How elements take points of a row, and which rule fits.

A row holds a triple for each point: the point, its from and its to.
"""

from respelling.parts import MOST_BOUND, OF_ANY, OF_POINT
from respelling.points import in_ranges


class Fit:
    def __init__(self, rule, bounds):
        self.rule = rule
        self.bounds = bounds


def first_fit(rules, left, right, sets):
    for rule in rules:
        bounds = bounds_of_matches(rule, left, right, sets)
        if bounds is not None:
            return Fit(rule, bounds)
    return None


def bounds_of_matches(rule, left, right, sets):
    bounds = bounds_of_row(rule.matches, right, 0, sets)
    if bounds is None:
        return None
    if bounds_of_row(rule.afters, right, bounds[-1], sets) is None:
        return None
    if bounds_of_row(rule.befores, left[::-1], 0, sets) is None:
        return None
    return bounds


def bounds_of_row(wanted, row, start, sets):
    # There is one bound more than elements: each takes from its bound to the next.
    bounds = [start]
    for element in wanted:
        end = end_of_element(element, row, bounds[-1], sets)
        if end is None:
            return None
        bounds.append(end)
    return bounds


def end_of_element(element, row, start, sets):
    least = element[3]
    most = element[4]
    # The greatest most bounds nothing: a row may be longer than that.
    bound = len(row) if most == MOST_BOUND else min(len(row), start + most)
    end = start
    while end < bound and is_of(element, row[end][0], sets):
        end += 1
    return end if end - start >= least else None


def is_of(element, point, sets):
    of = element[0]
    a = element[1]
    but = element[2]
    if of == OF_ANY:
        return True
    if of == OF_POINT:
        return (point == a) != (but == 1)
    return in_ranges(point, sets[a]) != (but == 1)
