"""Which rule is applied, pass by pass; what is endless and what is too long; the call steps."""

from helping import (
    RewritingCase, a_map, a_set, after, apply_call, before, copy, cursor, each_answer, map_call, mapped, match, put,
    rule, set_call, steps_call, turn_call)

NOTHING = rule(match(a="z", least=0))


def counting_down(of_pass=0):
    """Calls by which each point from 1 to 99 takes as many rules as it says, till it is 0."""
    pairs = [number for k in range(1, 100) for number in (k, k - 1)]
    return [set_call([1, 99]), map_call(pairs), rule(match(of=1, a=0), cursor(), mapped(0, 0), of_pass=of_pass)]


class Order(RewritingCase):
    def test_by_number(self):
        one = rule(match(a="a"), put("x"))
        two = rule(match(a="a"), match(a="b"), put("y"))
        self.comes_out("ab", "xb", one, two)
        self.comes_out("ab", "y", two, one)
        self.comes_out("aab", "xy", two, one)

    def test_each_place_tries_all_of_them(self):
        told = [rule(match(a="b"), put("x")), rule(match(a="a"), put("y"))]
        self.comes_out("abcab", "yxcyx", *told)

    def test_the_first_that_fits(self):
        told = [rule(before(a="z"), match(a="a"), put("x")), rule(match(a="a"), after(a="z"), put("y")),
                rule(match(a="a"), put("v")), rule(match(a="a"), put("w"))]
        self.comes_out("azaa", "yzxv", *told)

    def test_after_each_rule_they_are_tried_from_the_first_on(self):
        told = [rule(match(a="b"), put("x")), rule(match(a="a"), cursor(), put("b"))]
        self.comes_out("ab", "xx", *told)
        self.has_steps("ab", [(1, 0, 1, 1), (0, 0, 1, 1), (0, 1, 1, 1)], *told)

    def test_numbers_of_twenty_calls(self):
        told = [rule(match(a=k), put("x"), of_pass=k % 8) for k in range(1, 19)]
        self.has_steps([18, 7, 1, 16], [(15, 3, 1, 1), (0, 2, 1, 1), (17, 0, 1, 1), (6, 1, 1, 1)], *told)


class Turning(RewritingCase):
    def test_off_and_on_again(self):
        text = apply_call(1, "a")
        given = each_answer(
            rule(match(a="a"), put("x")), rule(match(a="a"), put("y")), text,
            turn_call(0, 0), text, turn_call(0, 0), text, turn_call(1, 0), text,
            turn_call(0, 1), text, turn_call(0, 1), turn_call(1, 1), text)
        x, y, a = [ord("x"), 0, 1], [ord("y"), 0, 1], [ord("a"), 0, 1]
        self.assertEqual(given, [[0], [1], x, [0], y, [0], y, [0], a, [0], x, [0], [0], x])

    def test_what_is_refused_turns_nothing(self):
        text = apply_call(1, "a")
        given = each_answer(
            rule(match(a="a"), put("x")), turn_call(0, 2), turn_call(1, 0), text,
            turn_call(0, 0), turn_call(0, 2), turn_call(1, 1), text)
        self.assertEqual(given, [[0], [-1], [-1], [120, 0, 1], [0], [-1], [-1], [97, 0, 1]])

    def test_steps_know_of_it(self):
        steps = steps_call(1, "a")
        given = each_answer(rule(match(a="a"), put("x")), rule(match(a="a"), put("y")), steps, turn_call(0, 0), steps)
        self.assertEqual(given, [[0], [1], [0, 0, 1, 1], [0], [1, 0, 1, 1]])

    def test_a_later_rule_is_in_effect_beside_one_that_is_off(self):
        given = each_answer(rule(match(a="a"), put("x")), turn_call(0, 0), rule(match(a="a"), put("y")),
                            apply_call(1, "a"), turn_call(1, 0), apply_call(1, "a"))
        self.assertEqual(given, [[0], [0], [1], [121, 0, 1], [0], [97, 0, 1]])


class Passes(RewritingCase):
    def test_each_pass_is_there(self):
        for number in range(8):
            self.comes_out("ab", "xb", rule(match(a="a"), put("x"), of_pass=number))

    def test_a_later_pass_sees_what_an_earlier_one_wrote(self):
        told = [rule(match(a="a"), put("b")), rule(match(a="b"), put("c"), of_pass=1)]
        self.comes_out("ab", "cc", *told)

    def test_an_earlier_pass_sees_nothing_of_a_later_one(self):
        told = [rule(match(a="a"), put("b"), of_pass=1), rule(match(a="b"), put("c"))]
        self.comes_out("ab", "bc", *told)

    def test_all_eight_one_behind_the_other(self):
        told = [rule(match(a=9 - k), put(10 - k), of_pass=8 - k) for k in range(1, 9)]
        self.comes_out([1, 5, 8, 9], [9, 9, 9, 9], *told)
        told = [rule(match(a=k), put(k + 1), of_pass=8 - k) for k in range(1, 9)]
        self.comes_out([1, 5, 8, 9], [2, 6, 9, 9], *told)

    def test_passes_without_rules(self):
        told = [rule(match(a="a"), put("b"), of_pass=2), rule(match(a="b"), put("c"), of_pass=6)]
        self.comes_out("ab", "cc", *told)
        self.has_steps("ab", [(0, 0, 1, 1), (1, 0, 1, 1), (1, 1, 1, 1)], *told)

    def test_a_pass_whose_rules_are_all_off(self):
        told = [rule(match(a="a"), put("b")), rule(match(a="b"), put("c"), of_pass=1), turn_call(0, 0)]
        self.comes_out("ab", "ac", *told)

    def test_a_pass_begins_at_the_beginning(self):
        told = [rule(match(a="b"), put("x")), rule(match(a="a"), after(a="x"), put("y"), of_pass=1)]
        self.comes_out("ab", "yx", *told)
        told = [rule(match(a="a"), put("x")), rule(before(of=2, a=0), match(a="x"), put("y"), of_pass=1)]
        self.comes_out("aa", "xy", *told)

    def test_numbers_go_over_all_passes_but_order_is_within_one(self):
        told = [rule(match(a="a"), put("x"), of_pass=3), rule(match(a="a"), put("y"), of_pass=2),
                rule(match(a="a"), put("z"), of_pass=2)]
        self.comes_out("a", "y", *told)
        self.has_steps("a", [(1, 0, 1, 1)], *told)

    def test_a_text_that_is_gone_is_gone(self):
        told = [rule(match(a="a")), rule(match(a="z", least=0), put("b"), of_pass=1)]
        self.comes_out("aa", "", *told)
        self.has_steps("aa", [(0, 0, 1, 0), (0, 0, 1, 0)], *told)


class Endless(RewritingCase):
    def test_a_rule_that_takes_nothing_and_writes_nothing(self):
        for size in (1, 2, 64):
            self.is_refused("a" * size, -6, NOTHING)
            self.has_steps("a" * size, [(0, 0, 0, 0)] * (16 * (size + 16)), NOTHING)

    def test_a_rule_that_writes_what_it_took(self):
        told = rule(match(a="a"), cursor(), copy(0))
        self.is_refused("ba", -6, told)
        self.has_steps("ba", [(0, 1, 1, 1)] * 288, told)
        self.comes_out("bb", "bb", told)

    def test_exactly_as_many_as_may_be(self):
        for size, each in ((4, 80), (8, 48), (16, 32), (64, 20)):
            self.comes_out([each] * size, [0] * size, *counting_down())
            self.is_refused([each] * (size - 1) + [each + 1], -6, *counting_down())
            self.is_refused([each + 1] + [each] * (size - 1), -6, *counting_down())

    def test_points_that_no_rule_takes_count_among_n(self):
        # 5 points: 336 rules; and the last point goes over after the last rule.
        self.comes_out([99, 99, 99, 39, 0], [0] * 5, *counting_down())
        self.is_refused([99, 99, 99, 40, 0], -6, *counting_down())
        self.comes_out([99, 99, 99, 40, 0, 0], [0] * 6, *counting_down())

    def test_steps_up_to_where_it_is_endless(self):
        counted = [(0, 0, 1, 1)] * 99 + [(0, 1, 1, 1)] * 99 + [(0, 2, 1, 1)] * 99 + [(0, 3, 1, 1)] * 39
        self.has_steps([99, 99, 99, 39, 0], counted, *counting_down())
        self.has_steps([99, 99, 99, 40, 0], counted, *counting_down())

    def test_n_of_a_later_pass_that_begins_longer(self):
        doubled = rule(match(of=2, a=0), copy(0), copy(0))
        self.comes_out([32] * 8, [0] * 16, doubled, *counting_down(1))
        self.is_refused([32] * 7 + [33], -6, doubled, *counting_down(1))

    def test_n_of_a_later_pass_that_begins_shorter(self):
        thinned = rule(match(a="z"))
        text = [32] * 16 + [ord("z")] * 48
        self.comes_out(text, [0] * 16, thinned, *counting_down(1))
        self.is_refused([33] + text[1:], -6, thinned, *counting_down(1))

    def test_n_does_not_grow_within_a_pass(self):
        # 17 points are there from the first rule on, but the pass began with 16.
        told = [*counting_down(), rule(match(a="z"), put(0), put(0))]
        self.comes_out([32] * 14 + [63, ord("z")], [0] * 17, *told)
        self.is_refused([ord("z"), 64] + [32] * 14, -6, *told)

    def test_each_pass_counts_for_itself(self):
        told = [*counting_down(), rule(match(a=0), put(32), of_pass=1), *counting_down(2)[2:]]
        self.comes_out([32] * 16, [0] * 16, *told)
        given = each_answer(*told, steps_call(64, [32] * 16))
        self.assertEqual(len(given[-1]), 4 * (512 + 16 + 512))

    def test_an_endless_pass_behind_others(self):
        told = [rule(match(a="a"), put("b")), rule(match(a="b"), cursor(), copy(0), of_pass=4),
                rule(match(a="b"), put("c"), of_pass=5)]
        self.is_refused("ac", -6, *told)
        self.has_steps("ac", [(0, 0, 1, 1)] + [(1, 0, 1, 1)] * 288, *told)

    def test_endless_is_told_before_too_long(self):
        # The last point counts down from 99 to 67, where it grows; that is rule 513, or 512 with one less before.
        told = [set_call([1, 32, 68, 99]), *counting_down()[1:], rule(match(a=67), put(0), put(0))]
        self.is_refused([32] * 15 + [99], -6, *told, cap=16)
        self.is_refused([32] * 15 + [99], -6, *told, cap=17)
        self.is_refused([31] + [32] * 14 + [99], -5, *told, cap=16)
        self.comes_out([31] + [32] * 14 + [99], [0] * 17, *told, cap=17)

    def test_too_long_comes_first_when_it_happens_first(self):
        self.is_refused("a", -5, rule(match(a="z", least=0), put("b")))
        self.is_refused("a", -5, rule(match(a="a"), cursor(), copy(0), copy(0)))

    def test_as_many_as_may_be_in_each_pass(self):
        told = [map_call([number for k in range(1, 161) for number in (k, k - 1)])]
        for k in range(8):
            told += [set_call([141 - 20 * k, 160 - 20 * k]),
                     rule(match(of=1, a=k), cursor(), mapped(0, 0), of_pass=k)]
        self.comes_out([160] * 64, [0] * 64, *told)
        steps = [(k, left, 1, 1) for k in range(8) for left in range(64) for time in range(20)]
        self.has_steps([160] * 64, steps, *told)


class TooLong(RewritingCase):
    def test_cap_points_and_one_more(self):
        told = rule(match(a="a"), put("x"), put("y"))
        self.comes_out("aba", "xybxy", told, cap=5)
        self.is_refused("aba", -5, told, cap=4)
        self.is_refused("aba", -5, told, cap=3)

    def test_64_points_and_one_more(self):
        told = rule(match(a="a"), put("x"), put("y"))
        self.comes_out("a" * 32, "xy" * 32, told)
        self.is_refused("a" * 33, -5, told)
        self.is_refused("a" + "b" * 63, -5, told)
        self.comes_out("a" + "b" * 62, "xy" + "b" * 62, told)

    def test_what_is_taken_does_not_count(self):
        told = rule(match(a="a", least=2, most=2), put("x"), put("y"))
        self.comes_out("aaaa", "xyxy", told, cap=4)

    def test_behind_the_cursor_counts(self):
        told = rule(match(a="a"), cursor(), put("x"), put("y"))
        self.comes_out("ba", "bxy", told, cap=3)
        self.is_refused("ba", -5, told, cap=2)
        told = rule(match(a="a"), put("x"), cursor(), put("y"))
        self.is_refused("ba", -5, told, cap=2)

    def test_though_it_would_be_shorter_later(self):
        told = [rule(match(a="a"), put("x"), put("x")), rule(match(a="x"), of_pass=1)]
        self.comes_out("aa", "", *told, cap=4)
        self.is_refused("aa", -5, *told, cap=3)
        told = [rule(match(a="a"), put("x"), put("x")), rule(match(a="b"))]
        self.comes_out("ba", "xx", *told, cap=2)
        self.is_refused("ab", -5, *told, cap=2)

    def test_steps_up_to_where_it_is_too_long(self):
        told = rule(match(a="a"), put("x"), put("y"))
        self.has_steps("aaa", [(0, 0, 1, 2)], told, cap=4)
        self.has_steps("aaa", [(0, 0, 1, 2), (0, 2, 1, 2)], told, cap=5)
        self.has_steps("aaa", [(0, 0, 1, 2), (0, 2, 1, 2), (0, 4, 1, 2)], told, cap=6)
        self.has_steps("aaa", [], told, cap=3)

    def test_in_a_later_pass(self):
        told = [rule(match(a="a"), put("x"), put("x")), rule(match(a="x"), put("y"), put("y"), of_pass=7)]
        self.comes_out("a", "yyyy", *told, cap=4)
        self.is_refused("a", -5, *told, cap=3)
        self.has_steps("a", [(0, 0, 1, 2), (1, 0, 1, 2)], *told, cap=3)

    def test_a_very_long_writing(self):
        told = rule(match(a="a", most=63), *[copy(0)] * 31)
        self.is_refused("a" * 64, -5, told)
        self.comes_out("aa", "a" * 62, told)

    def test_more_room_changes_nothing(self):
        told = [a_set("ac"), a_map("aA", "bB"), rule(match(of=1, a=0), cursor(), mapped(0, 0), put("-")),
                rule(match(a="c"), put("C"), of_pass=1)]
        given = [self.told(told, apply_call(cap, "abd")) for cap in range(5, 65)]
        self.assertEqual(given, [given[0]] * 60)
        self.assertEqual(given[0][0::3], [ord(sign) for sign in "A-B-d"])
        self.assertEqual(self.told(told, apply_call(4, "abd")), [-5])


class Steps(RewritingCase):
    def test_the_four_numbers(self):
        told = [rule(before(a="c"), match(a="a", most=63), match(a="b"), after(a="d"), copy(1), put("x"), copy(0))]
        self.has_steps("ccaabd", [(0, 2, 3, 4)], *told)

    def test_nothing_applied(self):
        self.has_steps("abc", [])
        self.has_steps("", [], NOTHING)

    def test_over_several_passes(self):
        told = [rule(match(a="b"), put("c"), put("c"), of_pass=1), rule(match(a="a"), put("b")),
                rule(match(a="c", most=63), of_pass=5)]
        self.comes_out("zab", "z", *told)
        self.has_steps("zab", [(1, 1, 1, 1), (0, 1, 1, 2), (0, 3, 1, 2), (2, 1, 4, 0)], *told)

    def test_each_is_told_as_often_as_it_is_applied(self):
        told = [rule(match(a="a"), put("x")), rule(match(a="b"), put("y"))]
        self.has_steps("abcab", [(0, 0, 1, 1), (1, 1, 1, 1), (0, 3, 1, 1), (1, 4, 1, 1)], *told)
