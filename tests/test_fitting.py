"""What elements take, and when a rule fits."""

from helping import LAST_POINT, RewritingCase, a_set, after, before, copy, match, put, rule, set_call


class Elements(RewritingCase):
    """An element is told as a match; x is written for what it takes."""

    def takes(self, text, outcome, *calls, **numbers):
        self.comes_out(text, outcome, *calls, rule(match(**numbers), put("x")))

    def test_one_point(self):
        self.takes("abca", "xbcx", a="a")
        self.takes([0, 1, LAST_POINT], ["x", 1, LAST_POINT], a=0)
        self.takes([0, 1, LAST_POINT], [0, 1, "x"], a=LAST_POINT)

    def test_all_points_but_one(self):
        self.takes("abca", "axxa", a="a", but=1)
        self.takes([0, 1, LAST_POINT], [0, "x", "x"], a=0, but=1)

    def test_a_set(self):
        self.takes("abcda", "axxda", a_set("bc"), of=1, a=0)
        self.takes("abcda", "xbcxx", a_set("dd", "aa"), of=1, a=0)

    def test_all_points_but_a_set(self):
        self.takes("abcda", "xbcxx", a_set("bc"), of=1, a=0, but=1)

    def test_an_empty_set(self):
        self.takes("ab", "ab", set_call([]), of=1, a=0)
        self.takes("ab", "xx", set_call([]), of=1, a=0, but=1)

    def test_a_set_of_all_points(self):
        self.takes([0, LAST_POINT], "xx", set_call([0, LAST_POINT]), of=1, a=0)
        self.takes([0, LAST_POINT], [0, LAST_POINT], set_call([0, LAST_POINT]), of=1, a=0, but=1)

    def test_the_set_that_is_named(self):
        self.takes("abc", "axc", a_set("aa"), a_set("bb"), a_set("cc"), of=1, a=1)

    def test_a_set_is_no_point(self):
        self.takes([0, 1, 97], [0, 1, "x"], a_set("aa"), of=1, a=0)
        self.takes([0, 1, 97], ["x", 1, 97], a_set("aa"), of=0, a=0)

    def test_any_point(self):
        self.takes([0, 97, LAST_POINT], "xxx", of=2, a=0)

    def test_as_many_as_there_are_up_to_most(self):
        self.takes("aaaaab", "xxxb", a="a", most=2)
        self.takes("aaaaab", "xb", a="a", most=5)
        self.takes("aaaaab", "xb", a="a", most=63)
        self.takes("aabaaa", "xbx", a="a", most=63)

    def test_fewer_than_least(self):
        self.takes("aabaaa", "aabx", a="a", least=3, most=3)
        self.takes("aabaaa", "xbx", a="a", least=2, most=3)
        self.takes("aabaaa", "aabaaa", a="a", least=4, most=63)

    def test_what_is_left_over_is_fewer_than_least(self):
        self.takes("aaaaa", "xxa", a="a", least=2, most=2)

    def test_most_63_takes_64_points(self):
        told = rule(match(a="a", least=0, most=63), put("x"))
        self.comes_out("a" * 64, "x", told)
        self.has_steps("a" * 64, [(0, 0, 64, 1)], told)

    def test_most_62_takes_62_points(self):
        told = rule(match(a="a", least=0, most=62), put("x"))
        self.comes_out("a" * 64, "xx", told)
        self.has_steps("a" * 64, [(0, 0, 62, 1), (0, 1, 2, 1)], told)

    def test_least_62(self):
        told = rule(match(of=2, a=0, least=62, most=63), put("x"))
        self.comes_out("a" * 61, "a" * 61, told)
        self.comes_out("a" * 62, "x", told)
        self.comes_out("a" * 64, "x", told)
        told = rule(match(of=2, a=0, least=62, most=62), put("x"))
        self.comes_out("a" * 61, "a" * 61, told)
        self.comes_out("a" * 64, "xaa", told)


class Matches(RewritingCase):
    def test_one_behind_the_other(self):
        told = rule(match(a="a"), match(a="b"), put("x"))
        self.comes_out("ab", "x", told)
        self.comes_out("babab", "bxx", told)
        self.comes_out("aabb", "axb", told)
        self.comes_out("a", "a", told)

    def test_what_is_taken_is_not_given_back(self):
        told = rule(match(a="a", most=63), match(a="a"), put("x"))
        self.comes_out("aaaa", "aaaa", told)
        told = rule(match(of=2, a=0, least=0, most=63), match(a="b"), put("x"))
        self.comes_out("aab", "aab", told)

    def test_none_is_left_for_the_next(self):
        told = rule(match(a="a", most=2), match(a="a", least=0), put("x"))
        self.comes_out("aa", "x", told)
        self.comes_out("aaa", "x", told)
        self.comes_out("aaaa", "xx", told)

    def test_least_0_between(self):
        told = rule(match(a="a"), match(a="b", least=0, most=63), match(a="c"), put("x"))
        self.comes_out("ac", "x", told)
        self.comes_out("abbbc", "x", told)
        self.comes_out("abdc", "abdc", told)

    def test_32_of_them(self):
        told = rule(*[match(a="a", most=2)] * 32)
        self.comes_out("a" * 64, "", told)
        self.comes_out("a" * 63, "", told)
        self.comes_out("a" * 31, "a" * 31, told)

    def test_they_take_from_right_alone(self):
        told = rule(match(a="b"), match(a="a"), put("x"))
        self.comes_out("aba", "ax", told)
        self.comes_out("ab", "ab", told)


class Befores(RewritingCase):
    def test_one(self):
        told = rule(before(a="a"), match(a="b"), put("x"))
        self.comes_out("ab", "ax", told)
        self.comes_out("bab", "bax", told)
        self.comes_out("bb", "bb", told)
        self.comes_out("acb", "acb", told)

    def test_several_in_the_order_of_the_text(self):
        told = rule(before(a="a"), before(a="b"), before(a="c"), match(a="d"), put("x"))
        self.comes_out("abcd", "abcx", told)
        self.comes_out("cbad", "cbad", told)
        self.comes_out("bcd", "bcd", told)
        self.comes_out("zabcd", "zabcx", told)

    def test_the_last_one_takes_first(self):
        told = rule(before(of=2, a=0, most=63), before(a="a", most=63), match(a="b"), put("x"))
        self.comes_out("caab", "caax", told)
        self.comes_out("aaab", "aaab", told)
        told = rule(before(a="a", most=63), before(of=2, a=0, most=63), match(a="b"), put("x"))
        self.comes_out("aacb", "aacb", told)

    def test_from_the_end_of_left(self):
        told = rule(before(a="a", least=2, most=2), match(a="b"), put("x"))
        self.comes_out("aab", "aax", told)
        self.comes_out("aaab", "aaax", told)
        self.comes_out("aacab", "aacab", told)

    def test_the_beginning_of_the_text(self):
        told = rule(before(of=2, a=0), match(a="a"), put("x"))
        self.comes_out("aaa", "axx", told)

    def test_none_with_least_0(self):
        told = rule(before(a="c", least=0, most=63), match(a="b"), put("x"))
        self.comes_out("bab", "xax", told)
        told = rule(before(a="a"), before(a="c", least=0), match(a="b"), put("x"))
        self.comes_out("ab", "ax", told)
        self.comes_out("acb", "acx", told)
        self.comes_out("accb", "accb", told)

    def test_what_an_earlier_rule_wrote(self):
        told = [rule(match(a="a"), put("x")), rule(before(a="x"), match(a="b"), put("y"))]
        self.comes_out("abb", "xyb", *told)
        told = [rule(match(a="a"), put("x")), rule(before(a="a"), match(a="b"), put("y"))]
        self.comes_out("abb", "xbb", *told)

    def test_what_the_same_rule_wrote(self):
        told = rule(before(a="x"), match(a="a"), put("x"))
        self.comes_out("xaaab", "xxxxb", told)

    def test_a_set_and_all_others(self):
        told = [a_set("aa", "cc"), rule(before(of=1, a=0), match(a="x"), put("y")),
                rule(before(of=1, a=0, but=1), match(a="x"), put("z"))]
        self.comes_out("xaxxbxcx", "xayzbzcy", *told)

    def test_of_62_points_and_of_all_64(self):
        # Left of 63 points: all of it but the first is b.
        text = "a" + "b" * 62 + "c"
        self.comes_out(text, "a" + "b" * 62 + "x",
                       rule(before(a="a"), before(a="b", least=62, most=62), match(a="c"), put("x")))
        self.comes_out("b" * 63 + "c", "b" * 63 + "c",
                       rule(before(a="a"), before(a="b", least=0, most=63), match(a="c"), put("x")))
        self.comes_out("b" * 63 + "c", "b" * 63 + "x",
                       rule(before(a="b"), before(a="b", least=0, most=62), match(a="c"), put("x")))


class Afters(RewritingCase):
    def test_one(self):
        told = rule(match(a="a"), after(a="b"), put("x"))
        self.comes_out("ab", "xb", told)
        self.comes_out("aab", "axb", told)
        self.comes_out("aca", "aca", told)

    def test_several_in_the_order_of_the_text(self):
        told = rule(match(a="a"), after(a="b"), after(a="c"), put("x"))
        self.comes_out("abc", "xbc", told)
        self.comes_out("acb", "acb", told)
        self.comes_out("ab", "ab", told)

    def test_the_first_one_takes_first(self):
        told = rule(match(a="a"), after(of=2, a=0, most=63), after(a="b"), put("x"))
        self.comes_out("acb", "acb", told)
        told = rule(match(a="a"), after(a="b", most=63), after(a="c"), put("x"))
        self.comes_out("abbc", "xbbc", told)

    def test_behind_what_the_matches_took(self):
        told = rule(match(a="a", most=2), match(a="b", least=0), after(a="a"), put("x"))
        self.comes_out("aaa", "xa", told)
        self.comes_out("aab", "aab", told)
        self.comes_out("aba", "xa", told)

    def test_the_end_of_the_text(self):
        told = rule(match(a="a"), after(of=2, a=0), put("x"))
        self.comes_out("aaa", "xxa", told)
        told = rule(match(a="a"), after(of=2, a=0, least=2, most=63), put("x"))
        self.comes_out("aaaa", "xxaa", told)

    def test_none_with_least_0(self):
        told = rule(match(a="a"), after(a="c", least=0, most=63), put("x"))
        self.comes_out("aba", "xbx", told)
        told = rule(match(a="a"), after(a="c", least=0), after(a="b"), put("x"))
        self.comes_out("abacbaccb", "xbxcbaccb", told)

    def test_they_are_not_taken(self):
        told = [rule(match(a="a"), after(a="b"), put("x")), rule(match(a="b"), put("y"))]
        self.comes_out("ab", "xy", *told)
        self.has_steps("ab", [(0, 0, 1, 1), (1, 1, 1, 1)], *told)

    def test_they_see_what_is_not_gone_over_yet(self):
        told = [rule(match(a="b"), put("y")), rule(match(a="a"), after(a="y"), put("x"))]
        self.comes_out("ab", "ay", *told)

    def test_of_all_behind_63_points(self):
        told = rule(match(a="a"), after(a="b", least=62, most=62), after(a="c"), put("x"))
        self.comes_out("a" + "b" * 62 + "c", "x" + "b" * 62 + "c", told)
        told = rule(match(a="a"), after(a="b", least=0, most=63), after(a="b"), put("x"))
        self.comes_out("a" + "b" * 63, "a" + "b" * 63, told)


class Together(RewritingCase):
    def test_before_match_and_after(self):
        told = rule(before(a="a"), match(a="b"), after(a="c"), put("x"))
        self.comes_out("abc", "axc", told)
        self.comes_out("bc", "bc", told)
        self.comes_out("ab", "ab", told)
        self.comes_out("cba", "cba", told)

    def test_matches_that_take_no_point(self):
        told = rule(before(a="a"), match(a="z", least=0), after(a="b"), put("-"))
        self.comes_out("abab", "a-ba-b", told)
        self.has_steps("abab", [(0, 1, 0, 1), (0, 4, 0, 1)], told)

    def test_befores_and_afters_that_take_no_point(self):
        told = rule(before(a="z", least=0), match(a="a"), after(a="z", least=0), copy(0), put("-"))
        self.comes_out("aba", "a-ba-", told)

    def test_nothing_is_tried_at_the_end(self):
        told = rule(before(a="a"), match(of=2, a=0, least=0), put("-"))
        self.comes_out("a", "a", told)
        self.comes_out("aa", "a-", told)
