"""Rows of letters, one for each x: which do, and which are the fewest."""


def first_clash(table, letters):
    for x in range(table.x_count):
        for z in range(x + 1, table.x_count):
            if letters[x] == letters[z] and table.are_mixed(x, z):
                return [x, z, table.ys_with_both(x, z)[0]]
    return []


def letters_do(table, letters):
    return len(first_clash(table, letters)) == 0


# Letters numbered as they first come leave none out, so the greatest tells how many there are.
def letter_count(numbered_row):
    return max(numbered_row) + 1


# Each row is followed up in the order it stands, with rising letters: so the longer ones are in order too.
def longer_rows(numbered_rows):
    longer = []
    for row in numbered_rows:
        for letter in range(letter_count(row) + 1):
            longer.append(row + [letter])
    return longer


def all_numbered_rows(x_count):
    found = [[0]]
    while len(found[0]) < x_count:
        found = longer_rows(found)
    return found


def rows_that_do(table):
    return [row for row in all_numbered_rows(table.x_count) if letters_do(table, row)]


# Never without a row: letters that are all different always do. Of several with as few min takes the first.
def best_row(table):
    return min(rows_that_do(table), key=letter_count)


def ways_with(table, k):
    return len([row for row in rows_that_do(table) if letter_count(row) == k])
