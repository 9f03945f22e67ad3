"""Answers a list of calls on a new book of sets, maps and rules."""

from respelling.book import Book
from respelling.reader import Reader

SET_CALL = 0
MAP_CALL = 1
RULE_CALL = 2
TURN_CALL = 3
HAS_CALL = 4


class UnknownCall(ValueError):
    pass


def answers(calls):
    book = Book()
    reader = Reader(calls)
    given = []
    while not reader.is_done():
        answer = answer_call(book, reader)
        given.append(len(answer))
        given.extend(answer)
    return given


def answer_call(book, reader):
    call = reader.take_number()
    if call == SET_CALL:
        return book.add_set(reader.take_row())
    if call == MAP_CALL:
        return book.add_map(reader.take_row())
    if call == RULE_CALL:
        pass_number = reader.take_number()
        return book.add_rule(pass_number, reader.take_row())
    if call == TURN_CALL:
        rule_number = reader.take_number()
        return book.turn_rule(rule_number, reader.take_number())
    if call == HAS_CALL:
        set_number = reader.take_number()
        return book.ask_set(set_number, reader.take_number())
    raise UnknownCall(f"no call has the number {call}")
