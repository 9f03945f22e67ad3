"""How calls stand in their list, how answers do, and that nothing is kept."""

import unittest

from helping import HUGE, NO_POINT, Untouchable, has_call, joined, map_call, match, rule_call, set_call, turn_call
from respelling.spelling import UnknownCall, answers

MIXED = joined([
    set_call([97, 122]), set_call([1]), has_call(0, 97), has_call(0, HUGE), has_call(1, 97),
    map_call([97, 65]), map_call([97, NO_POINT]), rule_call(0, match(of=1, a=0) + [5, 0, 0]),
    rule_call(HUGE, []), rule_call(0, match() + [4, 1]), rule_call(0, []), turn_call(0, 0), turn_call(1, 0),
    set_call([5, 5]), has_call(1, 5)])
MIXED_ANSWERS = [
    1, 0, 1, -1, 1, 1, 1, 0, 1, -1,
    1, 0, 1, -2, 1, 0,
    1, -2, 2, -3, 1, 2, -3, 0, 1, 0, 1, -1,
    1, 1, 1, 1]


class Interface(unittest.TestCase):
    def test_each_call_by_its_numbers(self):
        self.assertEqual(answers([0, 2, 97, 122]), [1, 0])
        self.assertEqual(answers([0, 0]), [1, 0])
        self.assertEqual(answers([1, 2, 97, 65]), [1, 0])
        self.assertEqual(answers([2, 0, 6, 1, 0, 65, 0, 1, 1]), [1, 0])
        self.assertEqual(answers([2, 0, 6, 1, 0, 65, 0, 1, 1, 3, 0, 1]), [1, 0, 1, 0])
        self.assertEqual(answers([0, 2, 97, 122, 4, 0, 98]), [1, 0, 1, 1])

    def test_refusals(self):
        self.assertEqual(answers([0, 1, 97]), [1, -1])
        self.assertEqual(answers([1, 1, 97]), [1, -1])
        self.assertEqual(answers([2, 8, 0]), [1, -2])
        self.assertEqual(answers([2, 0, 1, 7]), [2, -3, 0])
        self.assertEqual(answers([3, 0, 0]), [1, -1])
        self.assertEqual(answers([4, 0, 0]), [1, -1])

    def test_several_calls(self):
        self.assertEqual(answers(list(MIXED)), MIXED_ANSWERS)

    def test_numbers_of_the_greatest_size(self):
        calls = [0, 2, HUGE, HUGE, 1, 2, HUGE, HUGE, 2, HUGE, 1, HUGE, 2, 0, 1, HUGE, 3, HUGE, HUGE, 4, HUGE, HUGE]
        self.assertEqual(answers(calls), [1, -2, 1, -2, 1, -2, 2, -3, 0, 1, -1, 1, -1])

    def test_the_longest_row(self):
        self.assertEqual(answers(set_call([0] * 3999)), [1, -1])
        self.assertEqual(answers(map_call([0] * 3999)), [1, -1])
        self.assertEqual(answers(rule_call(0, [6] * 3998)), [2, -3, 0])
        self.assertEqual(answers(rule_call(0, [1, 2, 0, 0, 0, 63] * 666)), [2, -3, 32])

    def test_what_is_handed_in_is_not_changed(self):
        handed = Untouchable(MIXED)
        answers(handed)
        self.assertEqual(list(handed), MIXED)

    def test_two_times_the_same(self):
        handed = list(MIXED)
        first = answers(handed)
        self.assertEqual(answers(handed), first)
        first.append(5)
        self.assertEqual(answers(handed), MIXED_ANSWERS)

    def test_nothing_is_kept(self):
        answers(list(MIXED))
        self.assertEqual(answers(has_call(0, 97)), [1, -1])
        self.assertEqual(answers(turn_call(0, 1)), [1, -1])
        self.assertEqual(answers(rule_call(0, match(of=1, a=0))), [2, -3, 0])
        self.assertEqual(answers(rule_call(0, match() + [5, 0, 0])), [2, -3, 1])
        self.assertEqual(answers(set_call([])), [1, 0])
        self.assertEqual(answers(map_call([])), [1, 0])

    def test_whole_numbers_alone(self):
        given = answers(list(MIXED))
        self.assertIs(type(given), list)
        self.assertEqual({type(number) for number in given}, {int})

    def test_a_number_that_is_no_call(self):
        with self.assertRaises(UnknownCall):
            answers([9])
