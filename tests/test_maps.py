"""The call map."""

import unittest

from helping import HUGE, LAST_POINT, NO_POINT, each_answer, last_answer, map_call, mapped, match, rule_call
from respelling.book import Book


def pairs(count):
    return [number for k in range(count) for number in (k, 7)]


class Making(unittest.TestCase):
    def test_no_pair(self):
        self.assertEqual(last_answer(map_call([])), [0])

    def test_some_pairs(self):
        self.assertEqual(last_answer(map_call([97, 65])), [0])
        self.assertEqual(last_answer(map_call([97, 65, 98, 66, 65, 97])), [0])

    def test_a_point_mapped_to_itself(self):
        self.assertEqual(last_answer(map_call([97, 97])), [0])

    def test_a_to_may_come_twice(self):
        self.assertEqual(last_answer(map_call([97, 65, 98, 65])), [0])

    def test_256_pairs(self):
        self.assertEqual(last_answer(map_call(pairs(256))), [0])

    def test_257_pairs(self):
        self.assertEqual(last_answer(map_call(pairs(257))), [-1])

    def test_odd_counts(self):
        for size in (1, 3, 511, 513):
            self.assertEqual(last_answer(map_call(list(range(size)))), [-1], size)

    def test_bounds_of_code_points(self):
        self.assertEqual(last_answer(map_call([LAST_POINT, 0])), [0])
        self.assertEqual(last_answer(map_call([0, LAST_POINT])), [0])
        for number in (NO_POINT, HUGE):
            self.assertEqual(last_answer(map_call([number, 0])), [-2])
            self.assertEqual(last_answer(map_call([0, number])), [-2])
            self.assertEqual(last_answer(map_call([1, 2, number, 0])), [-2])
            self.assertEqual(last_answer(map_call([1, number, 3, 0])), [-2])

    def test_a_from_that_comes_twice(self):
        self.assertEqual(last_answer(map_call([97, 65, 97, 66])), [-2])
        self.assertEqual(last_answer(map_call([97, 65, 97, 65])), [-2])
        self.assertEqual(last_answer(map_call([97, 65, 98, 65, 99, 65, 97, 1])), [-2])
        self.assertEqual(last_answer(map_call(pairs(255) + [254, 1])), [-2])

    def test_shape_is_refused_before_pairs(self):
        self.assertEqual(last_answer(map_call([HUGE])), [-1])
        self.assertEqual(last_answer(map_call([97, 1, 97, 1, 97])), [-1])
        self.assertEqual(last_answer(map_call([97, NO_POINT] * 257)), [-1])

    def test_the_seventeenth_map(self):
        given = each_answer(*[map_call([k, k]) for k in range(17)])
        self.assertEqual(given, [[k] for k in range(16)] + [[-3]])

    def test_which_refusal_of_the_seventeenth(self):
        given = each_answer(
            *[map_call([k, k]) for k in range(16)],
            map_call([5]), map_call([5, NO_POINT]), map_call([5, 1, 5, 1]), map_call([]))
        self.assertEqual(given[16:], [[-1], [-2], [-2], [-3]])

    def test_what_is_refused_makes_no_map(self):
        rule = match() + mapped(m=1)
        given = each_answer(
            map_call([1]), map_call([]), map_call([5, 1, 5, 1]), rule_call(0, rule), map_call([]), rule_call(0, rule))
        self.assertEqual(given, [[-1], [0], [-2], [-3, 1], [1], [0]])

    def test_the_seventeenth_is_not_kept(self):
        book = Book()
        for k in range(16):
            self.assertEqual(book.add_map([]), [k])
        self.assertEqual(book.add_map([]), [-3])
        self.assertEqual(book.add_rule(0, match() + mapped(m=15)), [0])
        self.assertEqual(book.add_rule(0, match() + mapped(m=16)), [-3, 1])
