"""Calls written by name, answers taken apart, and tables that several tests use."""

from lettersent.letters import answers

LARGEST = 2147483647

NO_SUCH, ONE_ALONE, WRONG, THEY_DO, NOT_BEGUN = -2, -6, -22, -33, -61


def begin(x, y):
    return [0, x, y]


def set_often(x, y, w):
    return [1, x, y, w]


def row(x, how_often):
    return [2, x, len(how_often)] + how_often


def forget(y):
    return [3, y]


def may(x, y):
    return [4, x, y]


def mixed(x, z):
    return [5, x, z]


def mixed_with(x):
    return [6, x]


def good(letters):
    return [7, len(letters)] + letters


def clash(letters):
    return [8, len(letters)] + letters


def fewest():
    return [9]


def best():
    return [10]


def ways(k):
    return [11, k]


# The calls 12 to 22, each laid out as the interface tells.
LATER_CALLS = [
    [12],
    [13],
    [14],
    [15, 0, 0, 2, 0, 1],
    [16, 0],
    [17, 4, 0, 1, 2, 3],
    [17, 25] + list(range(25)),
    [18],
    [19, 0, 1, 0, 1],
    [20, 2, 0, 1],
    [20, 0],
    [21, 1],
    [22],
]


def split(given):
    """The list that is given back, as one list a call."""
    found = []
    at = 0
    while at < len(given):
        count = given[at]
        found.append(given[at + 1:at + 1 + count])
        at += 1 + count
    if at != len(given):
        raise AssertionError(f"the last answer is cut short: {given}")
    return found


def run(*calls):
    """One line of calls; one list of answers for each."""
    return split(answers([number for call in calls for number in call]))


def table_calls(rows):
    """The calls that make a table of these rows, and are all answered 0."""
    return [begin(len(rows), len(rows[0]))] + [row(x, list(rows[x])) for x in range(len(rows))]


def run_on(rows, *calls):
    """The calls on a table of these rows: what is answered to them alone."""
    making = table_calls(rows)
    found = run(*making, *calls)
    if found[:len(making)] != [[0]] * len(making):
        raise AssertionError(f"the table was not made: {found}")
    return found[len(making):]


def look_at_all(rows_count, columns_count):
    """Calls that tell of each x and y whether they come together, and where the table ends."""
    cells = [may(x, y) for x in range(rows_count) for y in range(columns_count)]
    return cells + [may(rows_count, 0), may(0, columns_count)]


def seen(rows):
    """What look_at_all is to answer on a table of these rows."""
    return [[1 if w else 0] for line in rows for w in line] + [[NO_SUCH], [NO_SUCH]]


def take_out(rows):
    """Calls that tell each number of the table, by setting it to 0: only for a line's end."""
    return [set_often(x, y, 0) for x in range(len(rows)) for y in range(len(rows[0]))]


def numbers_of(rows):
    """What take_out is to answer on a table of these rows."""
    return [[w] for line in rows for w in line]


NOTHING = [[0] * 3 for x in range(3)]
ALL_WITH_ALL = [[1] * 5 for x in range(5)]
RING = [[1 if y in (x, (x + 1) % 5) else 0 for y in range(5)] for x in range(5)]
# 0 and 1 share y 0, 1 and 2 share y 1; x 3 never comes.
PATH = [[2, 0, 1], [3, 4, 0], [0, 5, 0], [0, 0, 0]]
