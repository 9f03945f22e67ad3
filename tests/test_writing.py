"""What a rule writes, where the rewriting goes on, and where each point came from."""

from helping import (
    LAST_POINT, RewritingCase, a_map, after, before, copy, cursor, map_call, mapped, match, put, rule)


class Writing(RewritingCase):
    def test_put(self):
        self.comes_out("bab", "bxb", rule(match(a="a"), put("x")))
        self.comes_out("bab", "bxyxb", rule(match(a="a"), put("x"), put("y"), put("x")))
        self.comes_out("a", [0, LAST_POINT], rule(match(a="a"), put(0), put(LAST_POINT)))

    def test_copy(self):
        told = rule(match(a="a", most=63), match(a="b", most=63), copy(1), copy(0))
        self.comes_out("aab", "baa", told)
        self.comes_out("caabbb", "cbbbaa", told)

    def test_the_same_match_copied_twice(self):
        told = rule(match(a="a", most=2), match(a="b"), copy(0), copy(0), copy(1))
        self.comes_out("aab", "aaaab", told)

    def test_a_match_that_took_no_point(self):
        told = rule(match(a="a", least=0), match(a="b"), match(a="c", least=0), copy(2), copy(0), put("-"), copy(1))
        self.comes_out("b", "-b", told)
        self.comes_out("ab", "a-b", told)
        self.comes_out("bc", "c-b", told)
        self.comes_out("abc", "ca-b", told)

    def test_a_match_that_is_not_copied(self):
        told = rule(match(a="a"), match(a="b"), match(a="c"), copy(2), copy(0))
        self.comes_out("abc", "ca", told)

    def test_befores_and_afters_are_not_counted(self):
        told = rule(before(a="a"), match(a="b"), match(a="c"), after(a="d"), copy(1), copy(0))
        self.comes_out("abcd", "acbd", told)

    def test_mapped(self):
        told = [a_map("aA", "cC"), rule(match(of=2, a=0, most=63), mapped(0, 0))]
        self.comes_out("abcabd", "AbCAbd", *told)

    def test_mapped_once_alone(self):
        told = [a_map("ab", "bc"), rule(match(of=2, a=0, most=63), mapped(0, 0))]
        self.comes_out("abc", "bcc", *told)

    def test_mapped_by_several_maps(self):
        told = [a_map("ax"), a_map("ay", "bz"), rule(match(a="a"), match(a="b"), mapped(1, 0), mapped(0, 1),
                                                     mapped(0, 0), mapped(1, 1), copy(0))]
        self.comes_out("ab", "byxza", *told)

    def test_mapped_by_a_map_of_no_pair(self):
        self.comes_out("ab", "ab", map_call([]), rule(match(of=2, a=0), mapped(0, 0)))

    def test_nothing_written_at_all(self):
        told = rule(match(a="a"))
        self.comes_out("banana", "bnn", told)
        self.comes_out("aaa", "", told)
        self.has_steps("aba", [(0, 0, 1, 0), (0, 1, 1, 0)], told)

    def test_31_items_that_write(self):
        told = rule(match(a="a", most=2), *[copy(0)] * 31)
        self.comes_out("aa", "a" * 62, told)
        self.comes_out("a", "a" * 31, told)


class Cursors(RewritingCase):
    """Where b stands behind the cursor, the second rule makes it c."""

    def goes_on(self, text, outcome, *written):
        self.comes_out(text, outcome, rule(match(a="a"), *written), rule(match(a="b"), put("c")))

    def test_none(self):
        self.goes_on("da", "dbb", put("b"), put("b"))

    def test_last(self):
        self.goes_on("da", "dbb", put("b"), put("b"), cursor())

    def test_first(self):
        self.goes_on("da", "dcc", cursor(), put("b"), put("b"))

    def test_in_the_middle(self):
        self.goes_on("da", "dbcc", put("b"), cursor(), put("b"), put("b"))
        self.goes_on("da", "dbbc", put("b"), put("b"), cursor(), put("b"))

    def test_alone(self):
        self.goes_on("dad", "dd", cursor())

    def test_behind_and_before_a_copy(self):
        told = [rule(match(a="a"), match(a="b", most=63), copy(1), cursor(), copy(1)), rule(match(a="b"), put("c"))]
        self.comes_out("abbd", "bbccd", *told)

    def test_what_stands_behind_it_is_right_of_all_else(self):
        told = [rule(match(a="a"), cursor(), put("b")), rule(match(a="b"), match(a="d"), put("x"))]
        self.comes_out("adad", "xx", *told)

    def test_what_stands_before_it_is_left(self):
        told = [rule(match(a="a"), put("b"), cursor(), put("e")), rule(before(a="b"), match(a="e"), put("x"))]
        self.comes_out("ae", "bxe", *told)

    def test_the_same_rule_again(self):
        told = rule(match(a="a", most=63), match(a="b"), cursor(), copy(0))
        self.comes_out("aabbb", "aa", told)
        self.has_steps("aabbb", [(0, 0, 3, 2)] * 3, told)

    def test_steps_count_what_is_written_on_both_sides(self):
        told = rule(match(a="a"), put("b"), cursor(), put("c"), put("d"))
        self.has_steps("aa", [(0, 0, 1, 3), (0, 3, 1, 3)], told)


class ComingFrom(RewritingCase):
    def test_one_point_taken(self):
        told = rule(match(a="a"), put("x"), copy(0))
        self.comes_from("bab", [("b", 0, 1), ("x", 1, 2), ("a", 1, 2), ("b", 2, 3)], told)

    def test_several_points_taken(self):
        told = rule(match(a="a", most=63), match(a="b"), copy(1), copy(0))
        self.comes_from("caab", [("c", 0, 1), ("b", 1, 4), ("a", 1, 4), ("a", 1, 4)], told)

    def test_befores_and_afters_are_not_taken(self):
        told = rule(before(a="a"), match(a="b"), after(a="c"), put("x"))
        self.comes_from("abc", [("a", 0, 1), ("x", 1, 2), ("c", 2, 3)], told)

    def test_mapped_points(self):
        told = [a_map("ax"), rule(match(of=2, a=0, least=2, most=2), mapped(0, 0))]
        self.comes_from("abab", [("x", 0, 2), ("b", 0, 2), ("x", 2, 4), ("b", 2, 4)], *told)

    def test_behind_what_is_gone(self):
        self.comes_from("abac", [("b", 1, 2), ("c", 3, 4)], rule(match(a="a")))

    def test_points_that_an_earlier_rule_wrote(self):
        told = [rule(match(a="a"), match(a="b"), cursor(), put("x"), put("y")),
                rule(match(a="y"), match(a="c"), put("z"))]
        self.comes_from("abcd", [("x", 0, 2), ("z", 0, 3), ("d", 3, 4)], *told)

    def test_points_that_an_earlier_pass_wrote(self):
        told = [rule(match(a="a"), match(a="b"), put("x"), put("y")),
                rule(match(a="y"), match(a="c"), put("z"), of_pass=1)]
        self.comes_from("abcd", [("x", 0, 2), ("z", 0, 3), ("d", 3, 4)], *told)

    def test_the_least_from_is_not_always_the_first(self):
        # p and q come from 0 to 2 both, so what is written between them, from 2 to 2, begins behind q.
        told = [rule(match(a="a"), match(a="b"), put("p"), put("q")),
                rule(before(a="p"), match(a="z", least=0), after(a="q"), put("-"), of_pass=1)]
        self.comes_from("ab", [("p", 0, 2), ("-", 2, 2), ("q", 0, 2)], *told)
        told.append(rule(match(a="-"), match(a="q"), put("x"), of_pass=2))
        self.comes_from("ab", [("p", 0, 2), ("x", 0, 2)], *told)

    def test_points_that_several_passes_wrote(self):
        told = [rule(match(a="a"), match(a="b"), match(a="c"), put("p"), put("q")),
                rule(match(a="q"), match(a="d"), put("r"), of_pass=1),
                rule(match(a="r"), match(a="e", least=0), put("s"), of_pass=2)]
        self.comes_from("abcde", [("p", 0, 3), ("s", 0, 5)], *told)

    def test_nothing_taken_with_left_empty(self):
        told = [rule(before(a="b"), match(a="a"), copy(0)), rule(match(a="z", least=0), after(a="a"), put("b"))]
        self.comes_from("a", [("b", 0, 0), ("a", 0, 1)], *told)
        self.has_steps("a", [(1, 0, 0, 1), (0, 1, 1, 1)], *told)

    def test_nothing_taken_with_left_not_empty(self):
        told = rule(before(a="a"), match(a="z", least=0), after(a="b"), put("-"), put("+"))
        self.comes_from("cab", [("c", 0, 1), ("a", 1, 2), ("-", 2, 2), ("+", 2, 2), ("b", 2, 3)], told)

    def test_nothing_taken_behind_what_was_gone(self):
        told = [rule(match(a="z")), rule(before(a="a"), match(a="z", least=0), after(a="b"), put("-"))]
        self.comes_from("azzb", [("a", 0, 1), ("-", 1, 1), ("b", 3, 4)], *told)

    def test_nothing_taken_with_all_of_left_gone(self):
        told = [rule(match(a="z")), rule(before(a="-"), match(a="b"), copy(0)),
                rule(match(a="y", least=0), after(a="b"), put("-"))]
        self.comes_from("zzb", [("-", 0, 0), ("b", 2, 3)], *told)

    def test_nothing_taken_behind_a_point_of_several(self):
        told = [rule(match(a="a"), match(a="b"), put("x")),
                rule(before(a="x"), match(a="y", least=0), after(a="c"), put("-"))]
        self.comes_from("dabc", [("d", 0, 1), ("x", 1, 3), ("-", 3, 3), ("c", 3, 4)], *told)

    def test_what_was_written_from_nothing_is_taken(self):
        told = [rule(before(a="a"), match(a="z", least=0), after(a="b"), put("-")),
                rule(match(a="-"), put("x"), of_pass=1),
                rule(match(a="a"), match(a="x"), put("y"), of_pass=2)]
        self.comes_from("cab", [("c", 0, 1), ("y", 1, 2), ("b", 2, 3)], *told)
        told = told[:2]
        self.comes_from("cab", [("c", 0, 1), ("a", 1, 2), ("x", 2, 2), ("b", 2, 3)], *told)

    def test_nothing_taken_by_a_cursor_rule(self):
        told = rule(before(a="a"), match(a="z", least=0), after(a="b"), cursor(), put("-"))
        self.comes_from("ab", [("a", 0, 1), ("-", 1, 1), ("b", 1, 2)], told)
