"""How often who knows the letter and y is right by saying the x that comes oftenest."""

from lettersent.rows import all_numbered_rows, letter_count


def right_with_y(table, letters, y):
    oftenest = [0] * table.x_count
    for x in range(table.x_count):
        oftenest[letters[x]] = max(oftenest[letters[x]], table.often[x][y])
    return sum(oftenest)


def how_often_right(table, letters):
    return sum([right_with_y(table, letters, y) for y in range(table.y_count)])


# Of several that are right as often max takes the first.
def likeliest_row(table, k):
    rows = [row for row in all_numbered_rows(table.x_count) if letter_count(row) <= k]
    return max(rows, key=lambda row: how_often_right(table, row))
