"""The calls look and find."""

import unittest

from helping import HUGE, LAST_POINT, NO_POINT, each_answer, find_call, last_answer, look_call, map_call, set_call


class Look(unittest.TestCase):
    def looked_up(self, pairs, points):
        given = each_answer(map_call(pairs), *[look_call(0, point) for point in points])
        self.assertEqual(given[0], [0])
        return [number for answer in given[1:] for number in answer]

    def test_a_from_and_others(self):
        self.assertEqual(self.looked_up([97, 65, 98, 66], [97, 98, 96, 99, 65, 0]), [65, 66, 96, 99, 65, 0])

    def test_a_point_mapped_to_itself(self):
        self.assertEqual(self.looked_up([97, 97], [97]), [97])

    def test_mapped_once_alone(self):
        self.assertEqual(self.looked_up([1, 2, 2, 3, 3, 1], [1, 2, 3, 4]), [2, 3, 1, 4])

    def test_no_pair(self):
        self.assertEqual(self.looked_up([], [0, 97, LAST_POINT]), [0, 97, LAST_POINT])

    def test_from_0_and_to_0(self):
        self.assertEqual(self.looked_up([0, 5, 6, 0], [0, 6]), [5, 0])

    def test_the_last_code_point(self):
        self.assertEqual(self.looked_up([LAST_POINT, 1, 2, LAST_POINT], [LAST_POINT, 2]), [1, LAST_POINT])

    def test_numbers_that_are_no_code_points(self):
        numbers = [NO_POINT, NO_POINT + 1, HUGE - 1, HUGE]
        self.assertEqual(self.looked_up([97, 65, LAST_POINT, 1], numbers), numbers)

    def test_each_of_256_pairs(self):
        pairs = [number for k in range(256) for number in (k, 1000 + k)]
        self.assertEqual(self.looked_up(pairs, [0, 1, 128, 254, 255, 256]), [1000, 1001, 1128, 1254, 1255, 256])

    def test_no_such_map(self):
        self.assertEqual(last_answer(look_call(0, 97)), [-1])
        self.assertEqual(last_answer(look_call(HUGE, HUGE)), [-1])
        given = each_answer(map_call([97, 65]), look_call(1, 97), look_call(HUGE, 97), look_call(0, 97))
        self.assertEqual(given, [[0], [-1], [-1], [65]])

    def test_a_set_is_no_map(self):
        self.assertEqual(last_answer(set_call([97, 97]), look_call(0, 97)), [-1])

    def test_several_maps(self):
        given = each_answer(
            look_call(0, 1), map_call([1, 5]), map_call([1, 1, 1, 1]), look_call(1, 1), map_call([1, 6]),
            look_call(0, 1), look_call(1, 1), look_call(2, 1))
        self.assertEqual(given, [[-1], [0], [-2], [-1], [1], [5], [6], [-1]])


class Find(unittest.TestCase):
    def found(self, start, text, ranges=(97, 99)):
        return last_answer(set_call(ranges), find_call(0, start, text))

    def test_from_the_beginning(self):
        self.assertEqual(self.found(0, "xbyc"), [1])
        self.assertEqual(self.found(0, "a"), [0])
        self.assertEqual(self.found(0, "xyzc"), [3])

    def test_from_the_middle(self):
        self.assertEqual(self.found(2, "xbyc"), [3])
        self.assertEqual(self.found(1, "xbyc"), [1])
        self.assertEqual(self.found(3, "xbyc"), [3])

    def test_a_point_before_the_start(self):
        self.assertEqual(self.found(2, "abxyz"), [5])
        self.assertEqual(self.found(1, "axc"), [2])

    def test_from_the_end_and_beyond(self):
        for start in (4, 5, 1000, HUGE):
            self.assertEqual(self.found(start, "abca"), [4], start)

    def test_no_point_in_the_set(self):
        self.assertEqual(self.found(0, "xyz"), [3])
        self.assertEqual(self.found(0, "abc", ranges=()), [3])

    def test_an_empty_row(self):
        for start in (0, 1, HUGE):
            self.assertEqual(self.found(start, ""), [0], start)

    def test_numbers_that_are_no_code_points(self):
        row = [NO_POINT, HUGE, LAST_POINT, NO_POINT]
        self.assertEqual(self.found(0, row, ranges=(0, LAST_POINT)), [2])
        self.assertEqual(self.found(3, row, ranges=(0, LAST_POINT)), [4])
        self.assertEqual(self.found(0, [HUGE]), [1])

    def test_several_ranges(self):
        self.assertEqual(self.found(0, [5, 9, 15, 7], ranges=(10, 20, 7, 8)), [2])
        self.assertEqual(self.found(3, [5, 9, 15, 7], ranges=(10, 20, 7, 8)), [3])

    def test_a_very_long_row(self):
        self.assertEqual(self.found(0, [1] * 3900 + [97]), [3900])
        self.assertEqual(self.found(3000, [97] + [1] * 3900), [3901])

    def test_no_such_set(self):
        self.assertEqual(last_answer(find_call(0, 0, "a")), [-1])
        self.assertEqual(last_answer(find_call(HUGE, HUGE, "")), [-1])
        self.assertEqual(last_answer(set_call([97, 97]), find_call(1, 0, "a")), [-1])
        self.assertEqual(last_answer(map_call([97, 97]), find_call(0, 0, "a")), [-1])

    def test_several_sets(self):
        given = each_answer(
            set_call([97, 97]), set_call([98, 98]), find_call(0, 0, "ba"), find_call(1, 0, "ab"), find_call(2, 0, "ab"))
        self.assertEqual(given, [[0], [1], [1], [1], [-1]])
