"""What is answered to each call on a table that has begun."""

from lettersent.groups import greatest_all_mixed, greatest_none_mixed
from lettersent.guesses import how_often_right, likeliest_row
from lettersent.refusals import NO_SUCH, ONE_ALONE, THEY_DO, WRONG
from lettersent.rows import best_row, first_clash, letter_count, letters_do, ways_with
from lettersent.table import MOST_OFTEN
from lettersent.twos import are_twos_mixed, letters_do_for_two, letters_two_by_two


def yes_or_no(holds):
    return [1 if holds else 0]


def counted(found):
    return [len(found)] + found


def any_above(numbers, most):
    return any([number > most for number in numbers])


# There are as many letters to choose from as there are things, or twos, to give one to.
def wrong_letters(letters, count):
    return len(letters) != count or any_above(letters, count - 1)


def reply_set(table, x, y, w):
    if not table.has_x(x) or not table.has_y(y):
        return [NO_SUCH]
    if w > MOST_OFTEN:
        return [WRONG]
    before = table.often[x][y]
    table.put(x, y, w)
    return [before]


def reply_row(table, x, how_often):
    if not table.has_x(x):
        return [NO_SUCH]
    if len(how_often) != table.y_count or any_above(how_often, MOST_OFTEN):
        return [WRONG]
    table.put_row(x, how_often)
    return [0]


def reply_forget(table, y):
    if not table.has_y(y):
        return [NO_SUCH]
    if table.y_count == 1:
        return [ONE_ALONE]
    table.drop_y(y)
    return [table.y_count]


def reply_may(table, x, y):
    if not table.has_x(x) or not table.has_y(y):
        return [NO_SUCH]
    return yes_or_no(table.comes(x, y))


def reply_mixed(table, x, z):
    if not table.has_x(x) or not table.has_x(z):
        return [NO_SUCH]
    return yes_or_no(table.are_mixed(x, z))


def reply_mixed_with(table, x):
    if not table.has_x(x):
        return [NO_SUCH]
    return counted(table.mixed_with(x))


def reply_good(table, letters):
    if wrong_letters(letters, table.x_count):
        return [WRONG]
    return yes_or_no(letters_do(table, letters))


def reply_clash(table, letters):
    if wrong_letters(letters, table.x_count):
        return [WRONG]
    clash = first_clash(table, letters)
    if len(clash) == 0:
        return [THEY_DO]
    return clash


def reply_fewest(table):
    return [letter_count(best_row(table))]


def reply_best(table):
    row = best_row(table)
    return [letter_count(row)] + row


def reply_ways(table, k):
    return [ways_with(table, k)]


def reply_crowd(table):
    counts = [len(table.xs_with(y)) for y in range(table.y_count)]
    most = max(counts)
    return [most, counts.index(most)]


def reply_why(table):
    return counted(greatest_all_mixed(table))


def reply_apart(table):
    return counted(greatest_none_mixed(table))


def reply_told(table, c, y, letters):
    if wrong_letters(letters, table.x_count):
        return [WRONG]
    if not table.has_y(y):
        return [NO_SUCH]
    return counted([x for x in table.xs_with(y) if letters[x] == c])


def reply_sure(table, y):
    if not table.has_y(y):
        return [NO_SUCH]
    return counted(table.xs_with(y))


def reply_good_two(table, letters):
    if wrong_letters(letters, table.x_count * table.x_count):
        return [WRONG]
    return yes_or_no(letters_do_for_two(table, letters))


# Two by two a letter comes only behind all lesser ones, so these are numbered as they first come.
def reply_greedy_two(table):
    letters = letters_two_by_two(table)
    return [letter_count(letters)] + letters


def reply_mixed_two(table, x, z, u, v):
    if not all([table.has_x(each) for each in (x, z, u, v)]):
        return [NO_SUCH]
    return yes_or_no(are_twos_mixed(table, (x, z), (u, v)))


def reply_often(table, letters):
    if wrong_letters(letters, table.x_count):
        return [WRONG]
    return [how_often_right(table, letters), sum(table.row_by_row())]


def reply_likeliest(table, k):
    if k < 1 or k > table.x_count:
        return [WRONG]
    row = likeliest_row(table, k)
    return [how_often_right(table, row)] + row


def reply_all_told(table):
    return [table.x_count, table.y_count] + table.row_by_row()
