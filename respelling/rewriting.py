"""Rewrites a text by the rules of a book, pass by pass."""

from respelling.book import LAST_PASS
from respelling.fitting import first_fit
from respelling.points import are_code_points
from respelling.writing import write

MOST_CAP = 64
STEPS_A_POINT = 16
POINTS_ADDED = 16

ENDLESS = -6
TOO_LONG = -5


class Rewriting:
    def __init__(self, cap, points):
        self.cap = cap
        self.left = []
        self.right = [(point, place, place + 1) for place, point in enumerate(points)]
        self.steps = []
        self.refusal = None


def apply_rules(book, cap, points):
    refusal = refusal_of_text(cap, points)
    if refusal is not None:
        return [refusal]
    text = rewrite(book, cap, points)
    if text.refusal is not None:
        return [text.refusal]
    return joined(text.right)


def list_steps(book, cap, points):
    refusal = refusal_of_text(cap, points)
    if refusal is not None:
        return [refusal]
    return joined(rewrite(book, cap, points).steps)


def refusal_of_text(cap, points):
    if cap < 1 or cap > MOST_CAP:
        return -1
    if len(points) > cap:
        return -2
    if not are_code_points(points):
        return -3
    return None


def joined(rows):
    numbers = []
    for row in rows:
        numbers.extend(row)
    return numbers


def rewrite(book, cap, points):
    text = Rewriting(cap, points)
    for pass_number in range(LAST_PASS + 1):
        go_over(text, book, pass_number)
        if text.refusal is not None:
            return text
        begin_again(text)
    return text


def begin_again(text):
    text.right = text.left
    text.left = []


def go_over(text, book, pass_number):
    rules = [rule for rule in book.rules if rule.in_effect and rule.pass_number == pass_number]
    most_steps = STEPS_A_POINT * (len(text.right) + POINTS_ADDED)
    applied = 0
    while len(text.right) > 0 and text.refusal is None:
        fit = first_fit(rules, text.left, text.right, book.sets)
        if fit is None:
            move_on(text)
        elif applied == most_steps:
            text.refusal = ENDLESS
        else:
            applied += 1
            apply_fit(text, fit, book.maps)


def move_on(text):
    text.left.append(text.right[0])
    text.right = text.right[1:]


def apply_fit(text, fit, maps):
    taken = fit.bounds[-1]
    written = write(fit, text.left, text.right, maps)
    right = written.row[written.cursor:] + text.right[taken:]
    left = text.left + written.row[:written.cursor]
    if len(left) + len(right) > text.cap:
        text.refusal = TOO_LONG
        return
    text.steps.append((fit.rule.number, len(text.left), taken, len(written.row)))
    text.left = left
    text.right = right
