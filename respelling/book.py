"""The sets, maps and rules that one list of calls makes and asks."""

from respelling.parts import AFTER, BEFORE, MATCH, elements_of, first_wrong_item, split_items, writers_of
from respelling.points import are_code_points, are_paired, in_ranges, is_code_point, pairs_of

MOST_RANGES = 64
MOST_PAIRS = 256
MOST_SETS = 32
MOST_MAPS = 16
MOST_RULES = 64
LAST_PASS = 7


class Rule:
    def __init__(self, number, pass_number, row):
        self.number = number
        self.pass_number = pass_number
        # Befores take from left's end, the last one first.
        self.befores = list(reversed(elements_of(row, BEFORE)))
        self.matches = elements_of(row, MATCH)
        self.afters = elements_of(row, AFTER)
        self.writers = writers_of(row)
        self.in_effect = True


class Book:
    def __init__(self):
        self.sets = []
        self.maps = []
        self.rules = []

    def add_set(self, numbers):
        if not are_paired(numbers, MOST_RANGES):
            return [-1]
        ranges = pairs_of(numbers)
        if not all([first <= last and is_code_point(last) for first, last in ranges]):
            return [-2]
        if len(self.sets) >= MOST_SETS:
            return [-3]
        self.sets.append(ranges)
        return [len(self.sets) - 1]

    def add_map(self, numbers):
        if not are_paired(numbers, MOST_PAIRS):
            return [-1]
        pairs = pairs_of(numbers)
        table = dict(pairs)
        # A from that comes twice has only one place in the table.
        if len(table) < len(pairs) or not are_code_points(numbers):
            return [-2]
        if len(self.maps) >= MOST_MAPS:
            return [-3]
        self.maps.append(table)
        return [len(self.maps) - 1]

    def add_rule(self, pass_number, numbers):
        if pass_number > LAST_PASS:
            return [-2]
        row = split_items(numbers)
        wrong = first_wrong_item(row, len(self.sets), len(self.maps))
        if wrong is not None:
            return [-3, wrong]
        if len(self.rules) >= MOST_RULES:
            return [-4]
        self.rules.append(Rule(len(self.rules), pass_number, row))
        return [len(self.rules) - 1]

    def turn_rule(self, rule_number, on):
        if rule_number >= len(self.rules) or on > 1:
            return [-1]
        rule = self.rules[rule_number]
        rule.in_effect = on == 1
        return [0]

    def ask_set(self, set_number, point):
        if set_number >= len(self.sets):
            return [-1]
        # Answers are whole numbers, never True or False.
        return [1 if in_ranges(point, self.sets[set_number]) else 0]

    def ask_map(self, map_number, point):
        if map_number >= len(self.maps):
            return [-1]
        return [self.maps[map_number].get(point, point)]

    def find_place(self, set_number, start, points):
        if set_number >= len(self.sets):
            return [-1]
        for place in range(start, len(points)):
            if in_ranges(points[place], self.sets[set_number]):
                return [place]
        return [len(points)]
