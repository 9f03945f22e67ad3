"""Histories of calls: what later calls leave as it was, and many histories beside a second program.

The second program is written in another way: a rule's elements are a regular expression there.
"""

import random
import re
import unittest

from helping import (
    HUGE, NO_POINT, Untouchable, a_map, a_set, after, apply_call, before, copy, cursor, cut, each_answer, find_call,
    has_call, joined, look_call, map_call, mapped, match, put, rule, rule_call, set_call, steps_call, taken_apart,
    turn_call)
from respelling.spelling import answers


class LaterCalls(unittest.TestCase):
    def test_sets_maps_and_rules_made_later_change_nothing(self):
        apply = apply_call(10, "abc")
        given = each_answer(
            a_set("aa"), a_map("ax"), rule(match(of=1, a=0), mapped(0, 0)), apply,
            a_set("bb"), a_map("ay"), apply, rule(match(of=1, a=1), mapped(0, 1), of_pass=1), apply,
            rule(match(a="a"), put("z")), apply)
        x = [120, 0, 1, 98, 1, 2, 99, 2, 3]
        self.assertEqual(given, [[0], [0], [0], x, [1], [1], x, [1], x, [2], x])

    def test_what_is_refused_changes_nothing(self):
        apply = apply_call(3, "abc")
        given = each_answer(
            a_set("aa"), a_map("ax"), rule(match(of=1, a=0), mapped(0, 0)), apply,
            set_call([98]), set_call([98, 97]), map_call([97]), map_call([97, NO_POINT]), rule_call(8, [1]),
            rule_call(0, match(a="a") + put(NO_POINT)), rule_call(0, []), turn_call(1, 0), turn_call(0, 2),
            has_call(1, 5), look_call(1, 5), find_call(1, 0, []), apply_call(0, []), apply_call(2, "abc"),
            steps_call(3, [NO_POINT]), apply)
        x = [120, 0, 1, 98, 1, 2, 99, 2, 3]
        self.assertEqual(given, [
            [0], [0], [0], x, [-1], [-2], [-1], [-2], [-2], [-3, 1], [-3, 0], [-1], [-1], [-1], [-1], [-1], [-1], [-2],
            [-3], x])

    def test_endless_and_too_long_change_nothing(self):
        given = each_answer(
            rule(match(a="a"), cursor(), copy(0)), rule(match(a="b"), cursor(), copy(0), copy(0)),
            apply_call(9, "c"), apply_call(9, "ca"), apply_call(9, "cb"), steps_call(3, "cb"), apply_call(9, "c"),
            turn_call(0, 0), apply_call(9, "ca"))
        c = [99, 0, 1]
        self.assertEqual(given, [[0], [1], c, [-6], [-5], [1, 1, 1, 2], c, [0], [99, 0, 1, 97, 1, 2]])

    def test_one_text_leaves_nothing_to_the_next(self):
        given = each_answer(
            rule(before(a="a"), match(a="b"), put("x")), apply_call(9, "a"), apply_call(9, "b"),
            apply_call(9, "ab"), apply_call(9, ""), apply_call(9, "b"))
        b = [98, 0, 1]
        self.assertEqual(given, [[0], [97, 0, 1], b, [97, 0, 1, 120, 1, 2], [], b])

    def test_answers_stand_one_behind_the_other(self):
        calls = joined([
            rule(match(a="a"), put("x"), put("y")), apply_call(4, "ba"), steps_call(4, "ba"), apply_call(4, ""),
            steps_call(4, "b"), apply_call(2, "ba"), steps_call(2, "ba"), look_call(0, 1), find_call(0, 0, [1])])
        self.assertEqual(answers(calls), [
            1, 0, 9, 98, 0, 1, 120, 1, 2, 121, 1, 2, 4, 0, 1, 1, 2, 0, 0, 1, -5, 0, 1, -1, 1, -1])

    def test_calls_by_their_numbers(self):
        self.assertEqual(answers([1, 2, 97, 65, 5, 0, 97]), [1, 0, 1, 65])
        self.assertEqual(answers([0, 2, 97, 97, 6, 0, 1, 3, 97, 98, 97]), [1, 0, 1, 2])
        self.assertEqual(answers([7, 2, 2, 97, 98]), [6, 97, 0, 1, 98, 1, 2])
        self.assertEqual(answers([2, 0, 8, 1, 0, 97, 0, 1, 1, 3, 98, 8, 1, 1, 97]), [1, 0, 4, 0, 0, 1, 1])
        self.assertEqual(answers([7, 64, 0]), [0])
        self.assertEqual(answers([8, 64, 0]), [0])

    def test_numbers_of_the_greatest_size(self):
        calls = [5, HUGE, HUGE, 6, HUGE, HUGE, 1, HUGE, 7, HUGE, 1, HUGE, 8, HUGE, 0, 7, 1, 1, HUGE]
        self.assertEqual(answers(calls), [1, -1, 1, -1, 1, -1, 1, -1, 1, -3])


class SecondRule:
    def __init__(self, number, pass_number, items, sets):
        self.number = number
        self.pass_number = pass_number
        self.on = 1
        befores = [item for item in items if item[0] == 0]
        matches = [item for item in items if item[0] == 1]
        afters = [item for item in items if item[0] == 2]
        self.match_count = len(matches)
        self.ahead = re.compile(expression(matches + afters, sets), re.DOTALL)
        self.back = re.compile(expression(befores[::-1], sets), re.DOTALL)
        self.written = [item for item in items if item[0] > 2]


def expression(items, sets):
    # What a look ahead has found is not tried otherwise, so nothing is given back.
    parts = []
    for place, (kind, of, a, but, least, most) in enumerate(items):
        one = "." if of == 2 else signs(sets[a] if of == 1 else [(a, a)], but)
        most = "" if most == 63 else most
        parts.append(f"(?=(?P<e{place}>{one}{{{least},{most}}}))(?P=e{place})")
    return "".join(parts)


def signs(ranges, but):
    inner = "".join(f"\\U{first:08x}-\\U{last:08x}" for first, last in ranges)
    if inner:
        return f"[^{inner}]" if but else f"[{inner}]"
    return "." if but else "(?:(?!.).)"


class Second:
    """Answers calls that are told as tuples, rows among their parts as lists."""

    def __init__(self):
        self.sets = []
        self.maps = []
        self.rules = []

    def answer(self, call):
        return getattr(self, call[0])(*call[1:])

    def wrong(self, numbers, refusal):
        return refusal

    def set(self, numbers):
        self.sets.append(cut(numbers, 2))
        return [len(self.sets) - 1]

    def map(self, numbers):
        self.maps.append(dict(cut(numbers, 2)))
        return [len(self.maps) - 1]

    def rule(self, pass_number, items):
        self.rules.append(SecondRule(len(self.rules), pass_number, items, self.sets))
        return [len(self.rules) - 1]

    def turn(self, number, on):
        if number >= len(self.rules) or on > 1:
            return [-1]
        self.rules[number].on = on
        return [0]

    def has(self, number, point):
        if number >= len(self.sets):
            return [-1]
        return [int(any(point in range(first, last + 1) for first, last in self.sets[number]))]

    def look(self, number, point):
        if number >= len(self.maps):
            return [-1]
        return [self.maps[number].get(point, point)]

    def find(self, number, start, row):
        if number >= len(self.sets):
            return [-1]
        return [min([k for k in range(len(row)) if k >= start and self.has(number, row[k]) == [1]], default=len(row))]

    def apply(self, cap, text):
        refusal, spots, steps = self.rewrite(cap, text)
        return [refusal] if refusal else joined(spots)

    def steps(self, cap, text):
        refusal, spots, steps = self.rewrite(cap, text)
        return [refusal] if refusal in (-1, -2, -3) else joined(steps)

    def rewrite(self, cap, text):
        if cap not in range(1, 65):
            return -1, [], []
        if len(text) > cap:
            return -2, [], []
        if text and max(text) >= NO_POINT:
            return -3, [], []
        spots = [(point, k, k + 1) for k, point in enumerate(text)]
        steps = []
        for number in range(8):
            rules = [each for each in self.rules if each.on and each.pass_number == number]
            refusal = self.go_over(spots, rules, cap, steps)
            if refusal:
                return refusal, spots, steps
        return 0, spots, steps

    def go_over(self, spots, rules, cap, steps):
        # All of the text is one list; the place in it is where right begins.
        may_be = len(steps) + 16 * (len(spots) + 16)
        place = 0
        while place < len(spots):
            text = "".join(chr(spot[0]) for spot in spots)
            for each in rules:
                ahead = each.ahead.match(text[place:])
                if ahead and each.back.match(text[:place][::-1]):
                    break
            else:
                place += 1
                continue
            if len(steps) == may_be:
                return -6
            taken = ahead.groups()[:each.match_count]
            size = len("".join(taken))
            written, goes_on = self.write(each, taken)
            if len(spots) - size + len(written) > cap:
                return -5
            steps.append((each.number, place, size, len(written)))
            old = spots[place:place + size]
            last = spots[place - 1][2] if place else 0
            start = min([spot[1] for spot in old], default=last)
            end = max([spot[2] for spot in old], default=last)
            spots[place:place + size] = [(ord(sign), start, end) for sign in written]
            place += goes_on
        return 0

    def write(self, each, taken):
        halves = [""]
        for item in each.written:
            if item[0] == 3:
                halves[-1] += chr(item[1])
            elif item[0] == 4:
                halves[-1] += taken[item[1]]
            elif item[0] == 5:
                halves[-1] += taken[item[1]].translate(self.maps[item[2]])
            else:
                halves.append("")
        return "".join(halves), len(halves[0])


ROWS = {"set": (0, 1), "map": (1, 1), "rule": (2, 2), "turn": (3, 0), "has": (4, 0), "look": (5, 0), "find": (6, 3),
        "apply": (7, 2), "steps": (8, 2)}


def told(call):
    """The numbers of a call that is told as a tuple."""
    if call[0] == "wrong":
        return call[1]
    number, row = ROWS[call[0]]
    numbers = [number]
    for place, part in enumerate(call[1:], start=1):
        if place == row:
            part = joined(part) if call[0] == "rule" else part
            numbers += [len(part)] + part
        else:
            numbers.append(part)
    return numbers


class Maker:
    """Makes histories; the same seed makes the same ones."""

    def __init__(self, seed):
        self.chance = random.Random(seed)
        self.counts = {"set": 0, "map": 0, "rule": 0}

    def point(self):
        return self.chance.choice([97, 97, 97, 98, 98, 99, 100, 0, 10, 55296, NO_POINT - 1])

    def history(self):
        calls = [self.made("set"), self.made("map"), self.made("rule"), self.made("rule")]
        kinds = ["set", "map", "rule", "rule", "rule", "turn", "has", "look", "find", "apply", "apply", "steps",
                 "wrong"]
        while len(calls) < 18:
            calls.append(self.made(self.chance.choice(kinds)))
        text = self.text()
        return calls + [("apply", 64, text), ("steps", 64, text)]

    def made(self, kind):
        call = (kind,) + getattr(self, "parts_of_" + kind)()
        if kind in self.counts:
            self.counts[kind] += 1
        return call

    def number_of(self, kind):
        return self.chance.randrange(self.counts[kind] + 1)

    def parts_of_wrong(self):
        pass_number, items = self.parts_of_rule()
        return self.chance.choice([
            (set_call([97, 99, 98]), [-1]), (set_call([97, 99, 98, 97]), [-2]), (map_call([97] * 513), [-1]),
            (map_call([97, 98, 97, 99]), [-2]), (rule_call(8, joined(items)), [-2]),
            (rule_call(pass_number, joined(items) + [7]), [-3, len(items)]),
            (rule_call(pass_number, joined(items) + put(NO_POINT)), [-3, len(items)])])

    def parts_of_set(self):
        ranges = [sorted([self.point(), self.point()]) for k in range(self.chance.randrange(3))]
        return (joined(ranges),)

    def parts_of_map(self):
        froms = {self.point() for k in range(self.chance.randrange(5))}
        return (joined([[point, self.point()] for point in sorted(froms)]),)

    def parts_of_rule(self):
        chance = self.chance
        matches = chance.choice([1, 1, 1, 2, 2, 3])
        items = [before(**self.element()) for k in range(chance.choice([0, 0, 1, 2]))]
        items += [match(**self.element()) for k in range(matches)]
        items += [after(**self.element()) for k in range(chance.choice([0, 0, 1, 2]))]
        written = []
        for k in range(chance.choice([0, 1, 1, 2, 3])):
            written.append(chance.choice([
                put(self.point()), copy(chance.randrange(matches)),
                mapped(chance.randrange(matches), chance.randrange(self.counts["map"]))]))
        if chance.randrange(3) == 0:
            written.insert(chance.randrange(len(written) + 1), cursor())
        return chance.choice([0, 0, 0, 1, 1, 7, chance.randrange(8)]), items + written

    def element(self):
        chance = self.chance
        of = chance.choice([0, 0, 0, 1, 1, 2])
        a = [self.point(), chance.randrange(self.counts["set"]), 0][of]
        least = chance.choice([0, 1, 1, 1, 2])
        most = chance.choice([max(least, 1), max(least, 1), 2, 3, 63])
        return {"of": of, "a": a, "but": 0 if of == 2 else chance.choice([0, 0, 1]), "least": least, "most": most}

    def parts_of_turn(self):
        return self.number_of("rule"), self.chance.choice([0, 0, 1, 1, 2])

    def parts_of_has(self):
        return self.number_of("set"), self.chance.choice([self.point(), NO_POINT, HUGE])

    def parts_of_look(self):
        return self.number_of("map"), self.chance.choice([self.point(), NO_POINT, HUGE])

    def parts_of_find(self):
        return self.number_of("set"), self.chance.choice([0, 1, 3, HUGE]), self.text() + [NO_POINT, self.point()]

    def text(self):
        return [self.point() for k in range(self.chance.randrange(13))]

    def parts_of_apply(self):
        text = self.text()
        size = len(text)
        cap = self.chance.choice([size, size + 1, size + 3, 64, 64, 64, 64, 65, max(size - 1, 0)])
        if self.chance.randrange(20) == 0:
            text = text + [NO_POINT]
        return cap, text

    def parts_of_steps(self):
        return self.parts_of_apply()


class ManyHistories(unittest.TestCase):
    COUNT = 600

    def test_beside_the_second_program(self):
        for seed in range(self.COUNT):
            calls = Maker(seed).history()
            second = Second()
            wanted = [second.answer(call) for call in calls]
            self.assertEqual(each_answer(*[told(call) for call in calls]), wanted, (seed, calls))

    def test_all_that_may_happen_does(self):
        # Histories that all came out, or none, would test little.
        refused = {-6: 0, -5: 0}
        changed = 0
        for seed in range(0, self.COUNT, 4):
            calls = Maker(seed).history()
            given = each_answer(*[told(call) for call in calls])
            for answer in given:
                if answer and answer[0] in refused:
                    refused[answer[0]] += 1
            changed += len(given[-1]) > 8
        self.assertGreater(min(refused.values()), 20)
        self.assertGreater(changed, 40)

    def test_two_times_the_same(self):
        for seed in range(0, self.COUNT, 10):
            handed = Untouchable(joined([told(call) for call in Maker(seed).history()]))
            kept = list(handed)
            self.assertEqual(answers(handed), answers(handed))
            self.assertEqual(list(handed), kept)

    def test_from_and_to_lie_within_the_text(self):
        for seed in range(0, self.COUNT, 4):
            calls = Maker(seed).history()
            given = taken_apart(answers(joined([told(call) for call in calls])), 20)
            spots = cut(given[18], 3) if len(given[18]) != 1 else []
            size = len(calls[18][2])
            for point, start, end in spots:
                self.assertTrue(0 <= start <= end <= size, (seed, spots))
            if given[19] == []:
                self.assertEqual(spots, [(point, k, k + 1) for k, point in enumerate(calls[18][2])])

    def test_more_room_changes_nothing(self):
        for seed in range(0, self.COUNT, 8):
            calls = Maker(seed).history()[:18]
            text = Maker(seed + 1).text()
            caps = sorted({max(len(text), 1), max(len(text), 1) + 2, 20, 64})
            given = [each_answer(*[told(call) for call in calls], apply_call(cap, text))[-1] for cap in caps]
            outcomes = [answer for answer in given if answer not in ([-5], [-6])]
            self.assertEqual(outcomes, given[len(given) - len(outcomes):], (seed, given))
            self.assertEqual(outcomes, outcomes[:1] * len(outcomes), (seed, given))
