"""Calls written by name, answers taken apart, and tables and rows that several tests use."""

import itertools

from lettersent.letters import answers

LARGEST = 2147483647

NO_SUCH, ONE_ALONE, WRONG, THEY_DO, NOT_BEGUN = -2, -6, -22, -33, -61


def begin(x, y):
    return [0, x, y]


def set_often(x, y, w):
    return [1, x, y, w]


def row(x, how_often):
    return [2, x, len(how_often)] + how_often


def forget(y):
    return [3, y]


def may(x, y):
    return [4, x, y]


def mixed(x, z):
    return [5, x, z]


def mixed_with(x):
    return [6, x]


def good(letters):
    return [7, len(letters)] + letters


def clash(letters):
    return [8, len(letters)] + letters


def fewest():
    return [9]


def best():
    return [10]


def ways(k):
    return [11, k]


def crowd():
    return [12]


def why():
    return [13]


def apart():
    return [14]


def told(c, y, letters):
    return [15, c, y, len(letters)] + letters


def sure(y):
    return [16, y]


def good_two(letters):
    return [17, len(letters)] + letters


def greedy_two():
    return [18]


def mixed_two(x, z, u, v):
    return [19, x, z, u, v]


def often(letters):
    return [20, len(letters)] + letters


def likeliest(k):
    return [21, k]


def all_told():
    return [22]


def split(given):
    """The list that is given back, as one list a call."""
    found = []
    at = 0
    while at < len(given):
        count = given[at]
        found.append(given[at + 1:at + 1 + count])
        at += 1 + count
    if at != len(given):
        raise AssertionError(f"the last answer is cut short: {given}")
    return found


def run(*calls):
    """One line of calls; one list of answers for each."""
    if len(calls) > 60:
        raise AssertionError("a line holds 60 calls at most")
    return split(answers([number for call in calls for number in call]))


def table_calls(rows):
    """The calls that make a table of these rows, and are all answered 0."""
    return [begin(len(rows), len(rows[0]))] + [row(x, list(rows[x])) for x in range(len(rows))]


def run_on(rows, *calls):
    """The calls on a table of these rows: what is answered to them alone."""
    making = table_calls(rows)
    found = run(*making, *calls)
    if found[:len(making)] != [[0]] * len(making):
        raise AssertionError(f"the table was not made: {found}")
    return found[len(making):]


def whole(rows):
    """What all_told is to answer on a table of these rows."""
    return [len(rows), len(rows[0])] + [w for line in rows for w in line]


def run_looks(rows, *calls):
    """As run_on, of calls that are to change nothing: all_told ahead and behind says so."""
    found = run_on(rows, all_told(), *calls, all_told())
    if found[0] != whole(rows) or found[-1] != whole(rows):
        raise AssertionError(f"{rows} was not told or didn't stay: {found[0]}, then {found[-1]}, by {calls}")
    return found[1:-1]


def look_at_all(rows_count, columns_count):
    """Calls that tell of each x and y whether they come together, and where the table ends."""
    cells = [may(x, y) for x in range(rows_count) for y in range(columns_count)]
    return cells + [may(rows_count, 0), may(0, columns_count)]


def seen(rows):
    """What look_at_all is to answer on a table of these rows."""
    return [[1 if w else 0] for line in rows for w in line] + [[NO_SUCH], [NO_SUCH]]


def take_out(rows):
    """Calls that tell each number of the table, by setting it to 0: only for a line's end."""
    return [set_often(x, y, 0) for x in range(len(rows)) for y in range(len(rows[0]))]


def numbers_of(rows):
    """What take_out is to answer on a table of these rows."""
    return [[w] for line in rows for w in line]


NOTHING = [[0] * 3 for x in range(3)]
ALL_WITH_ALL = [[1] * 5 for x in range(5)]
RING = [[1 if y in (x, (x + 1) % 5) else 0 for y in range(5)] for x in range(5)]
# 0 and 1 share y 0, 1 and 2 share y 1; x 3 never comes.
PATH = [[2, 0, 1], [3, 4, 0], [0, 5, 0], [0, 0, 0]]

# Rows of letters that are refused where there are four x.
WRONG_FOR_FOUR = ([], [0], [0, 1, 2], [0, 1, 2, 3, 0], [4, 0, 0, 0], [0, 0, 0, 4], [0, LARGEST, 0, 0], [5] * 5)

FIVE = [
    RING,
    ALL_WITH_ALL,
    [[0] * 5 for x in range(5)],
    [[1, 0], [1, 1], [0, 1], [0, 0], [1, 0]],
    [[0, 9, 0], [1, 0, 0], [0, 1, 1], [2, 0, 0], [0, 0, 3]],
    [[1, 1, 1, 1], [1, 0, 0, 0], [0, 1, 0, 0], [0, 0, 1, 0], [0, 0, 0, 1]],
    [[1, 0, 0, 1, 0], [0, 1, 0, 1, 0], [1, 0, 0, 0, 1], [0, 1, 0, 0, 1], [0, 0, 1, 0, 0]],
]


def small_tables():
    """Every table of these sizes in which each two come together once or never."""
    for x_count, y_count in ((1, 1), (1, 3), (2, 2), (3, 1), (3, 2), (3, 3), (4, 2)):
        for marks in itertools.product((0, 1), repeat=x_count * y_count):
            yield [list(marks[x * y_count:(x + 1) * y_count]) for x in range(x_count)]


class Mixer:
    """Numbers that look thrown, the same ones each time and under each Python."""

    def __init__(self, seed):
        self.state = seed

    def below(self, count):
        self.state = (self.state * 6364136223846793005 + 1442695040888963407) % 2 ** 64
        return (self.state >> 33) % count

    def one_of(self, choices):
        return choices[self.below(len(choices))]

    def table(self, x_count, y_count):
        """How often from 0 to 9; in some tables hardly anything comes, in others almost all."""
        blanks = self.below(10)
        return [[0 if self.below(10) < blanks else self.below(10) for y in range(y_count)] for x in range(x_count)]

    def letters(self, count):
        """As many letters; sometimes many different ones, sometimes few."""
        most = 1 + self.below(count)
        return [self.below(most) for each in range(count)]


def many_tables(count, seed=1):
    """So many tables of all sizes, the corners and FIVE ahead of them."""
    mixer = Mixer(seed)
    sizes = [(1 + at % 5, 1 + at // 5 % 5) for at in range(count)]
    return [NOTHING, PATH] + FIVE + [mixer.table(x_count, y_count) for x_count, y_count in sizes]


def numbered_as_they_come(letters):
    order = list(dict.fromkeys(letters))
    return order == list(range(len(order)))


def all_rows(x_count):
    """Every row of letters, in order."""
    return [list(letters) for letters in itertools.product(range(x_count), repeat=x_count)]


def never_mistaken(rows, letters):
    """Whoever knows y and the letter knows x, whatever comes: told without the word mixed."""
    for y in range(len(rows[0])):
        heard = [letters[x] for x in range(len(rows)) if rows[x][y]]
        if len(heard) != len(set(heard)):
            return False
    return True


def twos_of(rows):
    """The twos of x, in order."""
    return list(itertools.product(range(len(rows)), repeat=2))


def never_mistaken_of_two(rows, letters):
    """Whoever knows both y and the letter knows both x, whatever comes: told without the word mixed."""
    for first, second in itertools.product(range(len(rows[0])), repeat=2):
        heard = [letter for letter, (x, z) in zip(letters, twos_of(rows)) if rows[x][first] and rows[z][second]]
        if len(heard) != len(set(heard)):
            return False
    return True
