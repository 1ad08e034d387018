"""What is answered to each call on a table that has begun."""

from lettersent.refusals import NO_SUCH, ONE_ALONE, THEY_DO, WRONG
from lettersent.rows import best_row, first_clash, letter_count, letters_do, ways_with
from lettersent.table import MOST_OFTEN


def yes_or_no(holds):
    return [1 if holds else 0]


def counted(found):
    return [len(found)] + found


def any_above(numbers, most):
    return any([number > most for number in numbers])


def wrong_letters(table, letters):
    return len(letters) != table.x_count or any_above(letters, table.x_count - 1)


def reply_set(table, x, y, w):
    if not table.has_x(x) or not table.has_y(y):
        return [NO_SUCH]
    if w > MOST_OFTEN:
        return [WRONG]
    before = table.often[x][y]
    table.put(x, y, w)
    return [before]


def reply_row(table, x, how_often):
    if not table.has_x(x):
        return [NO_SUCH]
    if len(how_often) != table.y_count or any_above(how_often, MOST_OFTEN):
        return [WRONG]
    table.put_row(x, how_often)
    return [0]


def reply_forget(table, y):
    if not table.has_y(y):
        return [NO_SUCH]
    if table.y_count == 1:
        return [ONE_ALONE]
    table.drop_y(y)
    return [table.y_count]


def reply_may(table, x, y):
    if not table.has_x(x) or not table.has_y(y):
        return [NO_SUCH]
    return yes_or_no(table.comes(x, y))


def reply_mixed(table, x, z):
    if not table.has_x(x) or not table.has_x(z):
        return [NO_SUCH]
    return yes_or_no(table.are_mixed(x, z))


def reply_mixed_with(table, x):
    if not table.has_x(x):
        return [NO_SUCH]
    return counted(table.mixed_with(x))


def reply_good(table, letters):
    if wrong_letters(table, letters):
        return [WRONG]
    return yes_or_no(letters_do(table, letters))


def reply_clash(table, letters):
    if wrong_letters(table, letters):
        return [WRONG]
    clash = first_clash(table, letters)
    if len(clash) == 0:
        return [THEY_DO]
    return clash


def reply_fewest(table):
    return [letter_count(best_row(table))]


def reply_best(table):
    row = best_row(table)
    return [letter_count(row)] + row


def reply_ways(table, k):
    return [ways_with(table, k)]
