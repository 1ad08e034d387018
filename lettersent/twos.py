"""Two uses: twos of x, one for each use, and letters for them."""


def all_twos(x_count):
    found = []
    for x in range(x_count):
        for z in range(x_count):
            found.append((x, z))
    return found


# An x that never comes leaves nothing to be mistaken about at that use, nor then over both.
def is_open_between(table, x, z):
    if x == z:
        return table.ever_comes(x)
    return table.are_mixed(x, z)


def are_twos_mixed(table, two, other):
    if two == other:
        return False
    return is_open_between(table, two[0], other[0]) and is_open_between(table, two[1], other[1])


def letters_of_mixed_ahead(table, twos, letters, at):
    return [letters[ahead] for ahead in range(at) if are_twos_mixed(table, twos[ahead], twos[at])]


def letters_do_for_two(table, letters):
    twos = all_twos(table.x_count)
    for at in range(len(twos)):
        if letters[at] in letters_of_mixed_ahead(table, twos, letters, at):
            return False
    return True


def least_not_in(taken):
    letter = 0
    while letter in taken:
        letter = letter + 1
    return letter


def letters_two_by_two(table):
    twos = all_twos(table.x_count)
    letters = []
    for at in range(len(twos)):
        letters.append(least_not_in(letters_of_mixed_ahead(table, twos, letters, at)))
    return letters
