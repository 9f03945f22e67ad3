"""The calls rule and turn."""

import unittest

from helping import (
    HUGE, LAST_POINT, NO_POINT, after, before, copy, cursor, each_answer, joined, last_answer, map_call, mapped,
    match, put, rule_call, set_call, turn_call)
from respelling.book import Book


class RuleCase(unittest.TestCase):
    """Each rule is told to a book of two sets and two maps."""

    def answer(self, *items):
        return last_answer(
            set_call([1, 2]), set_call([]), map_call([1, 2]), map_call([]), rule_call(0, joined(items)))

    def stands(self, *items):
        self.assertEqual(self.answer(*items), [0], items)

    def fails(self, number, *items):
        self.assertEqual(self.answer(*items), [-3, number], items)


class Passes(RuleCase):
    def test_each_pass(self):
        for number in range(8):
            self.assertEqual(last_answer(rule_call(number, match())), [0])

    def test_pass_above_7(self):
        for number in (8, 9, HUGE):
            self.assertEqual(last_answer(rule_call(number, match())), [-2])

    def test_pass_is_refused_before_items(self):
        self.assertEqual(last_answer(rule_call(8, [])), [-2])
        self.assertEqual(last_answer(rule_call(8, [7])), [-2])
        self.assertEqual(last_answer(rule_call(7, [7])), [-3, 0])


class Order(RuleCase):
    def test_one_match(self):
        self.stands(match())

    def test_all_kinds(self):
        self.stands(before(), before(), match(), match(), after(), after(), put(), copy(1), mapped(1, 1), cursor())

    def test_groups_may_be_left_out(self):
        self.stands(before(), match())
        self.stands(match(), after())
        self.stands(match(), put())
        self.stands(before(), match(), put())
        self.stands(match(), after(), cursor())

    def test_written_kinds_in_any_order(self):
        self.stands(match(), cursor(), mapped(), copy(), put())
        self.stands(match(), put(), cursor(), put(), copy(), put(), mapped(), copy())

    def test_before_comes_behind_befores_alone(self):
        self.fails(1, match(), before())
        self.fails(2, before(), match(), before())
        self.fails(2, match(), after(), before())
        for item in (put(), copy(), mapped(), cursor()):
            self.fails(2, match(), item, before())

    def test_match_comes_behind_befores_and_matches_alone(self):
        self.fails(2, match(), after(), match())
        for item in (put(), copy(), mapped(), cursor()):
            self.fails(2, match(), item, match())

    def test_after_comes_behind_matches_and_afters_alone(self):
        for item in (put(), copy(), mapped(), cursor()):
            self.fails(2, match(), item, after())
            self.fails(3, match(), after(), item, after())

    def test_kinds_from_2_on_come_behind_a_match(self):
        for item in (after(), put(), copy(), mapped(), cursor()):
            self.fails(0, item)
            self.fails(0, item, match())
            self.fails(1, before(), item)
            self.fails(1, before(), item, match())

    def test_kinds_that_are_none(self):
        for kind in (7, 8, 63, HUGE):
            self.fails(0, [kind])
            self.fails(0, [kind], match())
            self.fails(1, match(), [kind])
            self.fails(3, before(), match(), cursor(), [kind, 0, 0, 0, 0, 0])

    def test_two_cursors(self):
        self.stands(match(), cursor())
        self.fails(2, match(), cursor(), cursor())
        self.fails(4, match(), cursor(), put(), copy(), cursor())

    def test_the_first_that_cannot_stand_is_told(self):
        self.fails(1, match(), put(NO_POINT), cursor(), cursor(), [7])
        self.fails(0, match(a=NO_POINT), match(a=NO_POINT))


class NoMatch(RuleCase):
    def test_no_item(self):
        self.fails(0)

    def test_befores_alone(self):
        self.fails(1, before())
        self.fails(5, *[before()] * 5)
        self.fails(32, *[before()] * 32)

    def test_a_wrong_before_is_told_first(self):
        self.fails(1, before(), before(most=0), before())


class Counts(RuleCase):
    def test_32_items(self):
        self.stands(*[match()] * 32)
        self.stands(match(), *[put()] * 31)
        self.stands(*[before()] * 31, match())

    def test_33_items(self):
        self.fails(32, *[match()] * 33)
        self.fails(32, match(), *[put()] * 32)
        self.fails(32, *[before()] * 32, match())
        self.fails(32, *[before()] * 33)

    def test_many_more_items(self):
        self.fails(32, match(), *[put()] * 1000)
        self.fails(32, *[match()] * 32, [7])
        self.fails(32, *[match()] * 32, [3])

    def test_a_wrong_item_ahead_of_the_33rd(self):
        self.fails(31, *[match()] * 31, put(NO_POINT), put())
        self.fails(2, match(), cursor(), *[cursor()] * 3000)

    def test_numbers_that_are_not_all_there(self):
        lead = [before(), match()]
        for item in (match(), after(), put(), copy(), mapped()):
            for size in range(1, len(item)):
                self.fails(2, *lead, item[:size])
        for item in (before(), match()):
            for size in range(1, 6):
                self.fails(0, item[:size])
                self.fails(1, before(), item[:size])

    def test_a_number_too_many_is_an_item(self):
        self.fails(1, match(), [0])
        self.fails(2, match(), put(), [66])
        self.stands(match(), put(), [6])


class Elements(RuleCase):
    """What an element may be is the same for befores, matches and afters."""

    def element_stands(self, **numbers):
        self.stands(before(**numbers), match())
        self.stands(match(**numbers))
        self.stands(match(), after(**numbers))

    def element_fails(self, **numbers):
        self.fails(0, before(**numbers), match())
        self.fails(0, match(**numbers))
        self.fails(1, match(), after(**numbers))

    def test_one_point(self):
        for point in (0, 1, LAST_POINT):
            self.element_stands(of=0, a=point)
            self.element_stands(of=0, a=point, but=1)
        for point in (NO_POINT, HUGE):
            self.element_fails(of=0, a=point)
            self.element_fails(of=0, a=point, but=1)

    def test_a_set(self):
        for number in (0, 1):
            self.element_stands(of=1, a=number)
            self.element_stands(of=1, a=number, but=1)
        for number in (2, 3, HUGE):
            self.element_fails(of=1, a=number)
            self.element_fails(of=1, a=number, but=1)

    def test_any_point(self):
        self.element_stands(of=2, a=0)
        self.element_fails(of=2, a=0, but=1)
        self.element_fails(of=2, a=1)
        self.element_fails(of=2, a=HUGE)

    def test_of_above_2(self):
        for of in (3, 4, HUGE):
            self.element_fails(of=of, a=0)

    def test_but_above_1(self):
        for of in (0, 1, 2):
            for but in (2, HUGE):
                self.element_fails(of=of, a=0, but=but)

    def test_least(self):
        for least in (0, 1, 61, 62):
            self.element_stands(least=least, most=63)
        for least in (63, 64, HUGE):
            self.element_fails(least=least, most=63)
        self.element_fails(least=64, most=64)

    def test_most(self):
        for most in (1, 2, 62, 63):
            self.element_stands(least=0, most=most)
        for most in (0, 64, HUGE):
            self.element_fails(least=0, most=most)

    def test_least_above_most(self):
        for bound in (1, 2, 31, 62):
            self.element_stands(least=bound, most=bound)
        for most in (1, 2, 31, 61):
            self.element_fails(least=most + 1, most=most)
        self.element_fails(least=62, most=1)

    def test_bounds_hold_for_each_of(self):
        for of in (0, 1, 2):
            self.element_stands(of=of, a=0, least=0, most=63)
            self.element_fails(of=of, a=0, least=0, most=0)
            self.element_fails(of=of, a=0, least=2, most=1)


class Written(RuleCase):
    def test_put(self):
        for point in (0, LAST_POINT):
            self.stands(match(), put(point))
        for point in (NO_POINT, HUGE):
            self.fails(1, match(), put(point))

    def test_copy(self):
        self.stands(match(), copy(0))
        self.stands(match(), match(), copy(1), copy(0), copy(1))
        self.fails(1, match(), copy(1))
        self.fails(3, match(), match(), copy(1), copy(2))
        self.fails(1, match(), copy(HUGE))

    def test_befores_and_afters_are_no_matches(self):
        self.stands(before(), match(), after(), copy(0))
        self.fails(3, before(), match(), after(), copy(1))
        self.fails(3, before(), match(), after(), mapped(1))

    def test_the_last_of_many_matches(self):
        self.stands(*[match()] * 30, copy(29), mapped(29))
        self.fails(30, *[match()] * 30, copy(30))
        self.fails(30, *[match()] * 30, mapped(30))

    def test_mapped(self):
        self.stands(match(), mapped(0, 0), mapped(0, 1))
        self.fails(2, match(), mapped(0, 1), mapped(0, 2))
        self.fails(1, match(), mapped(0, HUGE))
        self.fails(1, match(), mapped(1, 0))
        self.fails(1, match(), mapped(HUGE, 0))


class History(unittest.TestCase):
    def test_sets_and_maps_must_be_there_already(self):
        of_set = match(of=1, a=0)
        by_map = match() + mapped()
        given = each_answer(
            rule_call(0, of_set), set_call([]), rule_call(0, of_set),
            rule_call(0, by_map), map_call([]), rule_call(0, by_map))
        self.assertEqual(given, [[-3, 0], [0], [0], [-3, 1], [0], [1]])

    def test_a_set_is_no_map(self):
        given = each_answer(set_call([]), rule_call(0, match() + mapped()), map_call([]), map_call([]),
                            rule_call(0, match(of=1, a=1)))
        self.assertEqual(given, [[0], [-3, 1], [0], [1], [-3, 0]])

    def test_refused_sets_and_maps_are_none(self):
        given = each_answer(set_call([1]), rule_call(0, match(of=1, a=0)), set_call([2, 1]),
                            rule_call(0, match(of=1, a=0)), map_call([1]), rule_call(0, match() + mapped()))
        self.assertEqual(given, [[-1], [-3, 0], [-2], [-3, 0], [-1], [-3, 1]])

    def test_numbers_go_on_over_all_passes(self):
        given = each_answer(rule_call(7, match()), rule_call(8, match()), rule_call(0, match()), rule_call(0, []),
                            rule_call(7, match()), rule_call(3, match()))
        self.assertEqual(given, [[0], [-2], [1], [-3, 0], [2], [3]])

    def test_64_rules_are_the_most(self):
        # No list of 20 calls gets there, so the book is asked itself.
        book = Book()
        for k in range(64):
            self.assertEqual(book.add_rule(k % 8, match()), [k])
        self.assertEqual(book.add_rule(0, match()), [-4])
        self.assertEqual(book.add_rule(8, match()), [-2])
        self.assertEqual(book.add_rule(0, match() + match(most=0)), [-3, 1])
        self.assertEqual(book.add_rule(0, []), [-3, 0])
        self.assertEqual(book.turn_rule(63, 0), [0])
        self.assertEqual(book.turn_rule(64, 0), [-1])


class Turning(unittest.TestCase):
    def test_on_and_off(self):
        given = each_answer(rule_call(0, match()), turn_call(0, 0), turn_call(0, 0), turn_call(0, 1), turn_call(0, 1))
        self.assertEqual(given, [[0], [0], [0], [0], [0]])

    def test_on_above_1(self):
        given = each_answer(rule_call(0, match()), turn_call(0, 2), turn_call(0, 3), turn_call(0, HUGE))
        self.assertEqual(given, [[0], [-1], [-1], [-1]])

    def test_no_such_rule(self):
        given = each_answer(turn_call(0, 0), rule_call(0, match()), turn_call(1, 1), turn_call(HUGE, 0),
                            turn_call(1, 2), turn_call(0, 1))
        self.assertEqual(given, [[-1], [0], [-1], [-1], [-1], [0]])

    def test_a_refused_rule_is_none(self):
        given = each_answer(rule_call(0, [7]), turn_call(0, 1), rule_call(8, match()), turn_call(0, 1))
        self.assertEqual(given, [[-3, 0], [-1], [-2], [-1]])
