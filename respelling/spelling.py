"""Answers a list of calls on a new book of sets, maps and rules."""

from respelling.book import Book
from respelling.reader import Reader
from respelling.rewriting import apply_rules, list_steps

SET_CALL = 0
MAP_CALL = 1
RULE_CALL = 2
TURN_CALL = 3
HAS_CALL = 4
LOOK_CALL = 5
FIND_CALL = 6
APPLY_CALL = 7
STEPS_CALL = 8


class UnknownCall(ValueError):
    pass


def answers(calls):
    book = Book()
    reader = Reader(calls)
    given = []
    while not reader.is_done():
        answer = answer_call(book, reader)
        given.append(len(answer))
        given.extend(answer)
    return given


def answer_call(book, reader):
    call = reader.take_number()
    if call == SET_CALL:
        return book.add_set(reader.take_row())
    if call == MAP_CALL:
        return book.add_map(reader.take_row())
    if call == RULE_CALL:
        pass_number = reader.take_number()
        return book.add_rule(pass_number, reader.take_row())
    if call == TURN_CALL:
        rule_number = reader.take_number()
        return book.turn_rule(rule_number, reader.take_number())
    if call == HAS_CALL:
        set_number = reader.take_number()
        return book.ask_set(set_number, reader.take_number())
    if call == LOOK_CALL:
        map_number = reader.take_number()
        return book.ask_map(map_number, reader.take_number())
    if call == FIND_CALL:
        set_number = reader.take_number()
        start = reader.take_number()
        return book.find_place(set_number, start, reader.take_row())
    if call == APPLY_CALL:
        cap = reader.take_number()
        return apply_rules(book, cap, reader.take_row())
    if call == STEPS_CALL:
        cap = reader.take_number()
        return list_steps(book, cap, reader.take_row())
    raise UnknownCall(f"no call has the number {call}")
