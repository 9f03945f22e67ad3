"""Builds calls for the tests and takes their answers apart."""

import unittest

from respelling.spelling import answers

LAST_POINT = 1114111
NO_POINT = 1114112
HUGE = 340282366920938463463374607431768211455


class Untouchable(list):
    """A list that refuses every change, even one that would be undone."""

    def refuse(self, *args, **kwargs):
        raise AssertionError("the list that was handed in was changed")

    append = extend = insert = pop = remove = clear = sort = reverse = refuse
    __setitem__ = __delitem__ = __iadd__ = __imul__ = refuse


def set_call(numbers):
    return [0, len(numbers)] + list(numbers)


def map_call(numbers):
    return [1, len(numbers)] + list(numbers)


def rule_call(pass_number, numbers):
    return [2, pass_number, len(numbers)] + list(numbers)


def turn_call(rule, on):
    return [3, rule, on]


def has_call(set_number, point):
    return [4, set_number, point]


def look_call(map_number, point):
    return [5, map_number, point]


def find_call(set_number, start, text):
    return [6, set_number, start, len(text)] + points_of(text)


def apply_call(cap, text):
    return [7, cap, len(text)] + points_of(text)


def steps_call(cap, text):
    return [8, cap, len(text)] + points_of(text)


def points_of(text):
    """The points of a text that is written as a str or point by point."""
    return [ord(sign) if isinstance(sign, str) else sign for sign in text]


def element(of=0, a=65, but=0, least=1, most=1):
    return [of] + points_of([a]) + [but, least, most]


def before(**numbers):
    return [0] + element(**numbers)


def match(**numbers):
    return [1] + element(**numbers)


def after(**numbers):
    return [2] + element(**numbers)


def put(a=66):
    return [3] + points_of([a])


def copy(k=0):
    return [4, k]


def mapped(k=0, m=0):
    return [5, k, m]


def cursor():
    return [6]


def a_set(*ranges):
    """A set call; each range is a str of its first and its last point."""
    return set_call(points_of("".join(ranges)))


def a_map(*pairs):
    """A map call; each pair is a str of its from and its to."""
    return map_call(points_of("".join(pairs)))


def rule(*items, of_pass=0):
    return rule_call(of_pass, joined(items))


def joined(rows):
    return [number for row in rows for number in row]


def each_answer(*calls):
    """The answer of each call, all of them in one list of calls."""
    handed = Untouchable(joined(calls))
    given = answers(handed)
    if list(handed) != joined(calls):
        raise AssertionError("the list that was handed in is another afterwards")
    return taken_apart(given, len(calls))


def taken_apart(given, call_count):
    if type(given) is not list or any(type(number) is not int for number in given):
        raise AssertionError(f"not a list of whole numbers: {given!r}")
    parts = []
    place = 0
    while place < len(given):
        behind = place + 1 + given[place]
        parts.append(given[place + 1:behind])
        place = behind
    if place != len(given) or len(parts) != call_count:
        raise AssertionError(f"not one answer for each call: {given!r}")
    return parts


def last_answer(*calls):
    return each_answer(*calls)[-1]


def cut(numbers, size):
    return [tuple(numbers[place:place + size]) for place in range(0, len(numbers), size)]


class RewritingCase(unittest.TestCase):
    """Tells calls, none of which may be refused, then rewrites a text."""

    def told(self, calls, last_call):
        given = each_answer(*calls, last_call)
        for answer in given[:-1]:
            self.assertGreaterEqual(answer[0], 0, given)
        return given[-1]

    def comes_out(self, text, outcome, *calls, cap=64):
        """The outcome's points alone are compared."""
        given = self.told(calls, apply_call(cap, text))
        self.assertEqual([spot[0] for spot in cut(given, 3)], points_of(outcome), given)
        self.assertEqual(len(given), 3 * len(outcome))

    def comes_from(self, text, spots, *calls, cap=64):
        """Each spot is a point, its from and its to."""
        given = self.told(calls, apply_call(cap, text))
        self.assertEqual(cut(given, 3), [(ord(sign), start, end) for sign, start, end in spots])

    def is_refused(self, text, number, *calls, cap=64):
        self.assertEqual(self.told(calls, apply_call(cap, text)), [number])

    def has_steps(self, text, steps, *calls, cap=64):
        given = self.told(calls, steps_call(cap, text))
        self.assertEqual(cut(given, 4), steps)
