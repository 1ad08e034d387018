"""How calls are laid out, one behind another, in the one list that is handed in."""

BEGIN = 0
SET_OFTEN = 1
ROW = 2
FORGET = 3
MAY = 4
MIXED = 5
MIXED_WITH = 6
GOOD = 7
CLASH = 8
FEWEST = 9
BEST = 10
WAYS = 11
CROWD = 12
WHY = 13
APART = 14
TOLD = 15
SURE = 16
GOOD_TWO = 17
GREEDY_TWO = 18
MIXED_TWO = 19
OFTEN = 20
LIKELIEST = 21

# Of each call, at its number: how many whole numbers it has, and whether a row stands behind them.
SHAPES = (
    (2, False),  # begin
    (3, False),  # set
    (1, True),  # row
    (1, False),  # forget
    (2, False),  # may
    (2, False),  # mixed
    (1, False),  # mixed_with
    (0, True),  # good
    (0, True),  # clash
    (0, False),  # fewest
    (0, False),  # best
    (1, False),  # ways
    (0, False),  # crowd
    (0, False),  # why
    (0, False),  # apart
    (2, True),  # told
    (1, False),  # sure
    (0, True),  # good_two
    (0, False),  # greedy_two
    (4, False),  # mixed_two
    (0, True),  # often
    (1, False),  # likeliest
    (0, False),  # all_told
)


class Call:
    def __init__(self, number, numbers, row):
        self.number = number
        self.numbers = numbers
        self.row = row


def read_calls(calls):
    found = []
    at = 0
    while at < len(calls):
        shape = SHAPES[calls[at]]
        behind = at + 1 + shape[0]
        numbers = calls[at + 1:behind]
        row = []
        if shape[1]:
            row_start = behind + 1
            row_end = row_start + calls[behind]
            row = calls[row_start:row_end]
            behind = row_end
        found.append(Call(calls[at], numbers, row))
        at = behind
    return found
