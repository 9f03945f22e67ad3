"""Builds calls for the tests and takes their answers apart."""

from respelling.spelling import answers

LAST_POINT = 1114111
NO_POINT = 1114112
HUGE = 340282366920938463463374607431768211455


class Untouchable(list):
    """A list that refuses every change, even one that would be undone."""

    def refuse(self, *args, **kwargs):
        raise AssertionError("the list that was handed in was changed")

    append = extend = insert = pop = remove = clear = sort = reverse = refuse
    __setitem__ = __delitem__ = __iadd__ = __imul__ = refuse


def set_call(numbers):
    return [0, len(numbers)] + list(numbers)


def map_call(numbers):
    return [1, len(numbers)] + list(numbers)


def rule_call(pass_number, numbers):
    return [2, pass_number, len(numbers)] + list(numbers)


def turn_call(rule, on):
    return [3, rule, on]


def has_call(set_number, point):
    return [4, set_number, point]


def element(of=0, a=65, but=0, least=1, most=1):
    return [of, a, but, least, most]


def before(**numbers):
    return [0] + element(**numbers)


def match(**numbers):
    return [1] + element(**numbers)


def after(**numbers):
    return [2] + element(**numbers)


def put(a=66):
    return [3, a]


def copy(k=0):
    return [4, k]


def mapped(k=0, m=0):
    return [5, k, m]


def cursor():
    return [6]


def joined(rows):
    return [number for row in rows for number in row]


def each_answer(*calls):
    """The answer of each call, all of them in one list of calls."""
    handed = Untouchable(joined(calls))
    given = answers(handed)
    if list(handed) != joined(calls):
        raise AssertionError("the list that was handed in is another afterwards")
    return taken_apart(given, len(calls))


def taken_apart(given, call_count):
    if type(given) is not list or any(type(number) is not int for number in given):
        raise AssertionError(f"not a list of whole numbers: {given!r}")
    parts = []
    place = 0
    while place < len(given):
        behind = place + 1 + given[place]
        parts.append(given[place + 1:behind])
        place = behind
    if place != len(given) or len(parts) != call_count:
        raise AssertionError(f"not one answer for each call: {given!r}")
    return parts


def last_answer(*calls):
    return each_answer(*calls)[-1]
