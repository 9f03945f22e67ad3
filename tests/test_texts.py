"""Which texts apply and steps refuse, and in what order."""

from helping import (
    HUGE, LAST_POINT, NO_POINT, RewritingCase, apply_call, cursor, each_answer, last_answer, match, put, rule,
    steps_call)

ENDLESS_RULE = rule(match(a="z", least=0))
GROWING_RULE = rule(match(a="z", least=0), put("b"))


class Texts(RewritingCase):
    def both_refuse(self, number, cap, text, *calls):
        self.assertEqual(last_answer(*calls, apply_call(cap, text)), [number])
        self.assertEqual(last_answer(*calls, steps_call(cap, text)), [number])

    def both_take(self, cap, text):
        own = [number for place, point in enumerate(text) for number in (point, place, place + 1)]
        self.assertEqual(last_answer(apply_call(cap, text)), own)
        self.assertEqual(last_answer(steps_call(cap, text)), [])

    def test_cap(self):
        for cap in (0, 65, 66, HUGE):
            self.both_refuse(-1, cap, [])
            self.both_refuse(-1, cap, [97])
        for cap in (1, 2, 63, 64):
            self.both_take(cap, [])
            self.both_take(cap, [97])

    def test_cap_points_and_one_more(self):
        for cap in (1, 2, 5, 63, 64):
            self.both_take(cap, [97] * cap)
            self.both_refuse(-2, cap, [97] * (cap + 1))
        self.both_refuse(-2, 64, [97] * 3990)

    def test_code_points(self):
        self.both_take(3, [LAST_POINT, 0, LAST_POINT])
        for number in (NO_POINT, HUGE):
            self.both_refuse(-3, 3, [number])
            self.both_refuse(-3, 3, [number, 97, 98])
            self.both_refuse(-3, 3, [97, 98, number])

    def test_surrogates_are_code_points(self):
        self.both_take(2, [55296, 57343])

    def test_cap_is_refused_first(self):
        self.both_refuse(-1, 0, [97])
        self.both_refuse(-1, 0, [NO_POINT])
        self.both_refuse(-1, 65, [97] * 66)
        self.both_refuse(-1, 65, [NO_POINT] * 66)

    def test_size_is_refused_before_points(self):
        self.both_refuse(-2, 1, [NO_POINT, 97])
        self.both_refuse(-2, 64, [HUGE] * 65)

    def test_points_are_refused_before_rewriting(self):
        for told in (ENDLESS_RULE, GROWING_RULE):
            self.both_refuse(-3, 5, [97, NO_POINT], told)
            self.both_refuse(-2, 1, [97, 97], told)
            self.both_refuse(-1, 0, [97], told)

    def test_an_empty_text(self):
        for told in (ENDLESS_RULE, GROWING_RULE):
            self.assertEqual(each_answer(told, apply_call(1, []), steps_call(1, [])), [[0], [], []])

    def test_without_rules_each_point_is_its_own(self):
        self.comes_from("aab", [("a", 0, 1), ("a", 1, 2), ("b", 2, 3)])

    def test_where_no_rule_fits_each_point_is_its_own(self):
        told = rule(match(a="z"), put("b"), cursor())
        self.comes_from("aab", [("a", 0, 1), ("a", 1, 2), ("b", 2, 3)], told)
        self.has_steps("aab", [], told)
