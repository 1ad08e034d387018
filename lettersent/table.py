"""The table: how often each x and each y come together."""

MOST_THINGS = 5
MOST_OFTEN = 9


class Table:
    def __init__(self, x_count, y_count):
        self.x_count = x_count
        self.y_count = y_count
        self.often = [[0] * y_count for x in range(x_count)]

    def has_x(self, x):
        return x < self.x_count

    def has_y(self, y):
        return y < self.y_count

    def put(self, x, y, w):
        self.often[x][y] = w

    def put_row(self, x, how_often):
        self.often[x] = list(how_often)

    def drop_y(self, y):
        self.often = [row[:y] + row[y + 1:] for row in self.often]
        self.y_count = self.y_count - 1

    def comes(self, x, y):
        return self.often[x][y] > 0

    def ys_with_both(self, x, z):
        return [y for y in range(self.y_count) if self.comes(x, y) and self.comes(z, y)]

    def are_mixed(self, x, z):
        return x != z and len(self.ys_with_both(x, z)) > 0

    def mixed_with(self, x):
        return [z for z in range(self.x_count) if self.are_mixed(x, z)]

    def xs_with(self, y):
        return [x for x in range(self.x_count) if self.comes(x, y)]

    def ever_comes(self, x):
        return sum(self.often[x]) > 0

    def row_by_row(self):
        found = []
        for row in self.often:
            found.extend(row)
        return found
