"""The calls of one line on one object, which is new, and what is answered to them."""

from lettersent.layout import APART, BEGIN, BEST, CLASH, CROWD, FEWEST, FORGET, GOOD, GOOD_TWO, GREEDY_TWO
from lettersent.layout import LIKELIEST, MAY, MIXED, MIXED_TWO, MIXED_WITH, OFTEN, ROW, SET_OFTEN, SURE, TOLD, WAYS, WHY
from lettersent.layout import read_calls
from lettersent.refusals import NOT_BEGUN, WRONG
from lettersent.replies import reply_all_told, reply_apart, reply_best, reply_clash, reply_crowd, reply_fewest
from lettersent.replies import reply_forget, reply_good, reply_good_two, reply_greedy_two, reply_likeliest, reply_may
from lettersent.replies import reply_mixed, reply_mixed_two, reply_mixed_with, reply_often, reply_row, reply_set
from lettersent.replies import reply_sure, reply_told, reply_ways, reply_why
from lettersent.table import MOST_THINGS, Table


def answer_change(table, number, numbers, row):
    if number == SET_OFTEN:
        return reply_set(table, numbers[0], numbers[1], numbers[2])
    if number == ROW:
        return reply_row(table, numbers[0], row)
    return reply_forget(table, numbers[0])


def answer_mixed(table, number, numbers):
    if number == MAY:
        return reply_may(table, numbers[0], numbers[1])
    if number == MIXED:
        return reply_mixed(table, numbers[0], numbers[1])
    return reply_mixed_with(table, numbers[0])


def answer_letters(table, number, numbers, row):
    if number == GOOD:
        return reply_good(table, row)
    if number == CLASH:
        return reply_clash(table, row)
    if number == FEWEST:
        return reply_fewest(table)
    if number == BEST:
        return reply_best(table)
    return reply_ways(table, numbers[0])


def answer_sets(table, number, numbers, row):
    if number == CROWD:
        return reply_crowd(table)
    if number == WHY:
        return reply_why(table)
    if number == APART:
        return reply_apart(table)
    if number == TOLD:
        return reply_told(table, numbers[0], numbers[1], row)
    return reply_sure(table, numbers[0])


def answer_twos(table, number, numbers, row):
    if number == GOOD_TWO:
        return reply_good_two(table, row)
    if number == GREEDY_TWO:
        return reply_greedy_two(table)
    return reply_mixed_two(table, numbers[0], numbers[1], numbers[2], numbers[3])


def answer_right(table, number, numbers, row):
    if number == OFTEN:
        return reply_often(table, row)
    return reply_likeliest(table, numbers[0])


# Calls that are alike have numbers that lie together, so the last one's number tells where each kind ends.
def answer_begun(table, number, numbers, row):
    if number <= FORGET:
        return answer_change(table, number, numbers, row)
    if number <= MIXED_WITH:
        return answer_mixed(table, number, numbers)
    if number <= WAYS:
        return answer_letters(table, number, numbers, row)
    if number <= SURE:
        return answer_sets(table, number, numbers, row)
    if number <= MIXED_TWO:
        return answer_twos(table, number, numbers, row)
    if number <= LIKELIEST:
        return answer_right(table, number, numbers, row)
    return reply_all_told(table)


class Line:
    def __init__(self):
        self.table = None

    def begin(self, x_count, y_count):
        if x_count < 1 or x_count > MOST_THINGS or y_count < 1 or y_count > MOST_THINGS:
            return [WRONG]
        self.table = Table(x_count, y_count)
        return [0]

    def answer(self, call):
        if call.number == BEGIN:
            return self.begin(call.numbers[0], call.numbers[1])
        if self.table is None:
            return [NOT_BEGUN]
        return answer_begun(self.table, call.number, call.numbers, call.row)


def answers(calls):
    line = Line()
    given = []
    for call in read_calls(calls):
        answer = line.answer(call)
        given.append(len(answer))
        given.extend(answer)
    return given
