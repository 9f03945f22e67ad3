"""The items of a rule, and which of them can't stand where they do."""

from respelling.points import is_code_point

BEFORE = 0
MATCH = 1
AFTER = 2
PUT = 3
COPY = 4
MAPPED = 5
CURSOR = 6

# By kind, the kind's own number counted.
ITEM_SIZES = (6, 6, 6, 2, 2, 3, 1)

OF_POINT = 0
OF_SET = 1
OF_ANY = 2

MOST_ITEMS = 32
LEAST_BOUND = 62
MOST_BOUND = 63


def split_items(numbers):
    # An unknown kind has no size to go on by, so it ends the row; what's cut off is left short.
    # Both are found not to stand there.
    row = []
    place = 0
    while place < len(numbers):
        kind = numbers[place]
        if kind >= len(ITEM_SIZES):
            row.append((kind,))
            return row
        behind = place + ITEM_SIZES[kind]
        row.append(tuple(numbers[place:behind]))
        place = behind
    return row


def first_wrong_item(row, set_count, map_count):
    for number, item in enumerate(row):
        if not can_stand(item, row[:number], set_count, map_count):
            return number
    if count_kind(row, MATCH) == 0:
        return len(row)
    return None


def can_stand(item, earlier, set_count, map_count):
    kind = item[0]
    if len(earlier) >= MOST_ITEMS or not kind_can_come(kind, earlier):
        return False
    if len(item) < ITEM_SIZES[kind]:
        return False
    if kind <= AFTER:
        return is_element(item[1:], set_count)
    if kind == PUT:
        return is_code_point(item[1])
    if kind == CURSOR:
        return True
    if item[1] >= count_kind(earlier, MATCH):
        return False
    return kind == COPY or item[2] < map_count


def kind_can_come(kind, earlier):
    if kind >= len(ITEM_SIZES):
        return False
    if kind >= AFTER and count_kind(earlier, MATCH) == 0:
        return False
    if kind == CURSOR and count_kind(earlier, CURSOR) > 0:
        return False
    return len(earlier) == 0 or group_of(earlier[-1][0]) <= group_of(kind)


def group_of(kind):
    # The kinds that write may come in any order among themselves.
    return min(kind, PUT)


def count_kind(row, kind):
    return len([item for item in row if item[0] == kind])


def elements_of(row, kind):
    return [item[1:] for item in row if item[0] == kind]


def writers_of(row):
    return [item for item in row if item[0] >= PUT]


def is_element(numbers, set_count):
    of = numbers[0]
    a = numbers[1]
    but = numbers[2]
    if but > 1 or not are_bounds(numbers[3], numbers[4]):
        return False
    if of == OF_POINT:
        return is_code_point(a)
    if of == OF_SET:
        return a < set_count
    return of == OF_ANY and a == 0 and but == 0


def are_bounds(least, most):
    return least <= LEAST_BOUND and 1 <= most <= MOST_BOUND and least <= most
