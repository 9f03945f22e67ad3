"""Code points, and numbers that come two by two."""

CODE_POINTS = 1114112


def is_code_point(number):
    return number < CODE_POINTS


def are_code_points(numbers):
    return all([is_code_point(number) for number in numbers])


def are_paired(numbers, most_pairs):
    return len(numbers) % 2 == 0 and len(numbers) <= 2 * most_pairs


def pairs_of(numbers):
    return [(numbers[k], numbers[k + 1]) for k in range(0, len(numbers), 2)]


def in_ranges(point, ranges):
    for first, last in ranges:
        if first <= point <= last:
            return True
    return False
