"""Sets of x, told as rising rows: the greatest that are all mixed, and that are none mixed."""


# Each x comes to all groups of lesser ones, behind these: so they are in order by their number, the least first.
def all_groups(x_count):
    found = [[]]
    for x in range(x_count):
        found = found + [group + [x] for group in found]
    return found


# How many of a group each of them is mixed with, taken together: so each two of them count twice.
def mixed_within(table, group):
    found = 0
    for x in group:
        found = found + len([z for z in group if table.are_mixed(x, z)])
    return found


def is_all_mixed(table, group):
    return mixed_within(table, group) == len(group) * (len(group) - 1)


def is_none_mixed(table, group):
    return mixed_within(table, group) == 0


# Of several as great max takes the first, which has the least number.
def greatest_all_mixed(table):
    return max([group for group in all_groups(table.x_count) if is_all_mixed(table, group)], key=len)


def greatest_none_mixed(table):
    return max([group for group in all_groups(table.x_count) if is_none_mixed(table, group)], key=len)
