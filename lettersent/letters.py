"""The calls of one line on one object, which is new, and what is answered to them."""

from lettersent.layout import BEGIN, BEST, CLASH, FEWEST, FORGET, GOOD, MAY, MIXED, MIXED_WITH, ROW, SET_OFTEN, WAYS
from lettersent.layout import read_calls
from lettersent.refusals import NOT_BEGUN, WRONG
from lettersent.replies import reply_best, reply_clash, reply_fewest, reply_forget, reply_good, reply_may
from lettersent.replies import reply_mixed, reply_mixed_with, reply_row, reply_set, reply_ways
from lettersent.table import MOST_THINGS, Table


def answer_change(table, number, numbers, row):
    if number == SET_OFTEN:
        return reply_set(table, numbers[0], numbers[1], numbers[2])
    if number == ROW:
        return reply_row(table, numbers[0], row)
    return reply_forget(table, numbers[0])


def answer_mixed(table, number, numbers):
    if number == MAY:
        return reply_may(table, numbers[0], numbers[1])
    if number == MIXED:
        return reply_mixed(table, numbers[0], numbers[1])
    return reply_mixed_with(table, numbers[0])


def answer_letters(table, number, numbers, row):
    if number == GOOD:
        return reply_good(table, row)
    if number == CLASH:
        return reply_clash(table, row)
    if number == FEWEST:
        return reply_fewest(table)
    if number == BEST:
        return reply_best(table)
    if number == WAYS:
        return reply_ways(table, numbers[0])
    raise NotImplementedError(f"call {number} is not written yet")


class Line:
    def __init__(self):
        self.table = None

    def begin(self, x_count, y_count):
        if x_count < 1 or x_count > MOST_THINGS or y_count < 1 or y_count > MOST_THINGS:
            return [WRONG]
        self.table = Table(x_count, y_count)
        return [0]

    def answer(self, call):
        if call.number == BEGIN:
            return self.begin(call.numbers[0], call.numbers[1])
        if self.table is None:
            return [NOT_BEGUN]
        if call.number <= FORGET:
            return answer_change(self.table, call.number, call.numbers, call.row)
        if call.number <= MIXED_WITH:
            return answer_mixed(self.table, call.number, call.numbers)
        return answer_letters(self.table, call.number, call.numbers, call.row)


def answers(calls):
    line = Line()
    given = []
    for call in read_calls(calls):
        answer = line.answer(call)
        given.append(len(answer))
        given.extend(answer)
    return given
