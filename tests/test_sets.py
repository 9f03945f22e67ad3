"""The calls set and has."""

import unittest

from helping import HUGE, LAST_POINT, NO_POINT, each_answer, has_call, last_answer, set_call
from respelling.book import Book


def members(ranges, points):
    """Which of the points the set of these ranges has."""
    found = []
    for start in range(0, len(points), 19):
        some = points[start:start + 19]
        given = each_answer(set_call(ranges), *[has_call(0, point) for point in some])
        found += [point for point, answer in zip(some, given[1:]) if answer == [1]]
        if any(answer not in ([0], [1]) for answer in given):
            raise AssertionError(f"neither 0 nor 1: {given!r}")
    return found


class Making(unittest.TestCase):
    def test_no_range(self):
        self.assertEqual(last_answer(set_call([])), [0])

    def test_one_range(self):
        self.assertEqual(last_answer(set_call([97, 122])), [0])

    def test_range_of_one_point(self):
        self.assertEqual(last_answer(set_call([97, 97])), [0])
        self.assertEqual(last_answer(set_call([0, 0])), [0])

    def test_overlapping_ranges_in_any_order(self):
        self.assertEqual(last_answer(set_call([10, 20, 5, 12, 5, 12, 0, 3])), [0])

    def test_64_ranges(self):
        self.assertEqual(last_answer(set_call([5, 6] * 64)), [0])

    def test_65_ranges(self):
        self.assertEqual(last_answer(set_call([5, 6] * 65)), [-1])

    def test_odd_counts(self):
        for size in (1, 3, 127, 129):
            self.assertEqual(last_answer(set_call([5] * size)), [-1], size)

    def test_a_very_long_row(self):
        self.assertEqual(last_answer(set_call([0] * 3998)), [-1])

    def test_first_above_last(self):
        self.assertEqual(last_answer(set_call([6, 5])), [-2])
        self.assertEqual(last_answer(set_call([1, 2, 6, 5])), [-2])
        self.assertEqual(last_answer(set_call([6, 5, 1, 2])), [-2])
        self.assertEqual(last_answer(set_call([HUGE, 5])), [-2])

    def test_last_code_point(self):
        self.assertEqual(last_answer(set_call([0, LAST_POINT])), [0])
        self.assertEqual(last_answer(set_call([LAST_POINT, LAST_POINT])), [0])
        for last in (NO_POINT, HUGE):
            self.assertEqual(last_answer(set_call([0, last])), [-2])
            self.assertEqual(last_answer(set_call([last, last])), [-2])
            self.assertEqual(last_answer(set_call([0, last, 1, 2])), [-2])
            self.assertEqual(last_answer(set_call([1, 2, 0, last])), [-2])

    def test_shape_is_refused_before_ranges(self):
        self.assertEqual(last_answer(set_call([6, 5, 1])), [-1])
        self.assertEqual(last_answer(set_call([6, 5] * 65)), [-1])
        self.assertEqual(last_answer(set_call([HUGE])), [-1])

    def test_numbers_go_on_past_what_is_refused(self):
        given = each_answer(
            set_call([1, 2]), set_call([1]), set_call([3, 4]), set_call([2, 1]), set_call([]),
            has_call(0, 1), has_call(1, 3), has_call(1, 1), has_call(2, 1), has_call(3, 1))
        self.assertEqual(given, [[0], [-1], [1], [-2], [2], [1], [1], [0], [0], [-1]])

    def test_twenty_sets(self):
        given = each_answer(*[set_call([k, k]) for k in range(20)])
        self.assertEqual(given, [[k] for k in range(20)])

    def test_32_sets_are_the_most(self):
        # No list of 20 calls gets there, so the book is asked itself.
        book = Book()
        for k in range(32):
            self.assertEqual(book.add_set([k, k]), [k])
        self.assertEqual(book.add_set([1, 2]), [-3])
        self.assertEqual(book.add_set([1]), [-1])
        self.assertEqual(book.add_set([2, 1]), [-2])
        self.assertEqual(book.ask_set(31, 31), [1])
        self.assertEqual(book.ask_set(32, 1), [-1])


class Asking(unittest.TestCase):
    def test_first_and_last_and_beside(self):
        self.assertEqual(members([97, 122], [0, 96, 97, 98, 121, 122, 123, LAST_POINT]), [97, 98, 121, 122])

    def test_range_of_one_point(self):
        self.assertEqual(members([50, 50], [49, 50, 51]), [50])

    def test_no_range_has_no_point(self):
        self.assertEqual(members([], [0, 1, LAST_POINT, NO_POINT, HUGE]), [])

    def test_several_ranges(self):
        self.assertEqual(members([30, 32, 10, 12, 20, 20], list(range(8, 36))), [10, 11, 12, 20, 30, 31, 32])

    def test_overlapping_ranges(self):
        self.assertEqual(members([10, 14, 12, 18, 11, 12], list(range(8, 22))), list(range(10, 19)))

    def test_each_of_64_ranges_counts(self):
        ranges = [number for k in range(64) for number in (3 * k, 3 * k + 1)]
        self.assertEqual(members(ranges, list(range(195))), [p for p in range(192) if p % 3 < 2])

    def test_bounds_of_code_points(self):
        self.assertEqual(members([0, LAST_POINT], [0, LAST_POINT, NO_POINT, HUGE]), [0, LAST_POINT])

    def test_no_such_set(self):
        self.assertEqual(each_answer(has_call(0, 5)), [[-1]])
        self.assertEqual(each_answer(has_call(HUGE, HUGE)), [[-1]])
        self.assertEqual(each_answer(set_call([5, 5]), has_call(1, 5), has_call(HUGE, 5)), [[0], [-1], [-1]])

    def test_a_set_that_comes_later(self):
        self.assertEqual(each_answer(has_call(0, 5), set_call([5, 5]), has_call(0, 5)), [[-1], [0], [1]])
