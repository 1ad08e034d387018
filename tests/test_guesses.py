"""Point 5: often, likeliest."""

import unittest

from helper import (ALL_WITH_ALL, LARGEST, Mixer, NOTHING, PATH, RING, WRONG, WRONG_FOR_FOUR, all_rows, forget,
                    likeliest, many_tables, numbered_as_they_come, often, run_looks, run_on, set_often)

NUMBERED = {x_count: [letters for letters in all_rows(x_count) if numbered_as_they_come(letters)]
            for x_count in range(1, 6)}


def right(rows, letters):
    """Over all y and letters, how often that x comes that comes oftenest."""
    found = 0
    for y in range(len(rows[0])):
        for letter in set(letters):
            found += max(rows[x][y] for x in range(len(rows)) if letters[x] == letter)
    return found


def total(rows):
    return sum(sum(line) for line in rows)


def likeliest_by_every_row(rows, k):
    few = [letters for letters in NUMBERED[len(rows)] if len(set(letters)) <= k]
    most = max(right(rows, letters) for letters in few)
    return [most] + [letters for letters in few if right(rows, letters) == most][0]


class OftenTest(unittest.TestCase):
    def test_path(self):
        found = run_looks(PATH, often([0, 0, 0, 0]), often([0, 1, 0, 0]), often([0, 1, 1, 0]), often([2, 2, 3, 3]),
                          often([3, 2, 1, 0]))
        self.assertEqual(found, [[9, 15], [15, 15], [11, 15], [13, 15], [15, 15]])

    def test_the_oftenest_of_each_letter_and_y(self):
        rows = [[1, 9], [8, 2], [3, 7]]
        found = run_looks(rows, often([0, 0, 0]), often([0, 0, 1]), often([0, 1, 0]), often([1, 0, 0]))
        self.assertEqual(found, [[17, 30], [27, 30], [22, 30], [25, 30]])

    def test_as_often_is_counted_once(self):
        self.assertEqual(run_looks([[4], [4], [4]], often([0, 0, 0]), often([0, 0, 2])), [[4, 12], [8, 12]])

    def test_an_x_that_never_comes(self):
        self.assertEqual(run_looks([[0], [5]], often([0, 0]), often([0, 1])), [[5, 5], [5, 5]])

    def test_nothing_comes(self):
        self.assertEqual(run_looks(NOTHING, often([0, 0, 0]), often([2, 1, 0])), [[0, 0], [0, 0]])

    def test_all_comes_with_all(self):
        rows = [[9] * 5 for x in range(5)]
        found = run_looks(rows, often([0] * 5), often([0, 1, 0, 1, 0]), often([4, 3, 2, 1, 0]))
        self.assertEqual(found, [[45, 225], [90, 225], [225, 225]])

    def test_ring(self):
        found = run_looks(RING, often([0] * 5), often([0, 1, 0, 1, 0]), often([0, 1, 0, 1, 2]))
        self.assertEqual(found, [[5, 10], [9, 10], [10, 10]])

    def test_one_x_and_one_y(self):
        self.assertEqual(run_looks([[3, 0, 9]], often([0])), [[12, 12]])
        self.assertEqual(run_looks([[3], [0], [9]], often([0, 0, 0]), often([1, 0, 0])), [[9, 12], [12, 12]])

    def test_wrong_letters(self):
        for letters in WRONG_FOR_FOUR:
            self.assertEqual(run_looks(PATH, often(letters)), [[WRONG]], letters)

    def test_a_letter_that_is_just_how_many_x_there_are(self):
        found = run_looks([[1, 1, 1], [1, 1, 1]], often([0, 1]), often([1, 1]), often([0, 2]), often([2, 0]))
        self.assertEqual(found, [[6, 6], [3, 6], [WRONG], [WRONG]])

    def test_behind_changes(self):
        found = run_on(PATH, set_often(3, 1, 9), often([0] * 4), forget(1), often([0] * 4))
        self.assertEqual(found, [[0], [13, 24], [2], [4, 6]])

    def test_many_tables(self):
        mixer = Mixer(5)
        for rows in many_tables(500):
            letters = mixer.letters(len(rows))
            found = run_looks(rows, often(letters))
            self.assertEqual(found, [[right(rows, letters), total(rows)]], (rows, letters))


class LikeliestTest(unittest.TestCase):
    def test_path(self):
        found = run_looks(PATH, *[likeliest(k) for k in range(6)])
        first = [15, 0, 1, 0, 0]
        self.assertEqual(found, [[WRONG], [9, 0, 0, 0, 0], first, first, first, [WRONG]])

    def test_not_the_fewest_but_the_likeliest(self):
        # 2 is best told from 0 and 1, though 0 comes ahead.
        rows = [[1, 1], [2, 2], [9, 9]]
        found = run_looks(rows, likeliest(1), likeliest(2), likeliest(3))
        self.assertEqual(found, [[18, 0, 0, 0], [22, 0, 0, 1], [24, 0, 1, 2]])

    def test_a_tie_is_the_first_row(self):
        self.assertEqual(run_looks([[1], [1], [1]], likeliest(2)), [[2, 0, 0, 1]])
        self.assertEqual(run_looks(RING, likeliest(2), likeliest(3)), [[9, 0, 0, 1, 0, 1], [10, 0, 1, 0, 1, 2]])
        self.assertEqual(run_looks([[5, 0], [0, 5], [0, 0]], likeliest(3)), [[10, 0, 0, 0]])

    def test_at_most_k_not_just_k(self):
        self.assertEqual(run_looks(NOTHING, likeliest(1), likeliest(2), likeliest(3)), [[0, 0, 0, 0]] * 3)

    def test_all_comes_with_all(self):
        found = run_looks(ALL_WITH_ALL, *[likeliest(k) for k in range(1, 6)])
        self.assertEqual(found, [[5, 0, 0, 0, 0, 0], [10, 0, 0, 0, 0, 1], [15, 0, 0, 0, 1, 2], [20, 0, 0, 1, 2, 3],
                                 [25, 0, 1, 2, 3, 4]])

    def test_one_x_and_one_y(self):
        self.assertEqual(run_looks([[3, 0, 9]], likeliest(1), likeliest(2)), [[12, 0], [WRONG]])
        self.assertEqual(run_looks([[3], [0], [9]], likeliest(1), likeliest(2)), [[9, 0, 0, 0], [12, 0, 0, 1]])

    def test_k_of_none_or_above_how_many_x_there_are(self):
        for x_count in range(1, 6):
            rows = [[1, 1] for x in range(x_count)]
            for k in (0, x_count + 1, x_count + 2, LARGEST):
                self.assertEqual(run_looks(rows, likeliest(k)), [[WRONG]], (x_count, k))

    def test_as_many_as_there_are_x_is_always_right(self):
        for rows in many_tables(50):
            found = run_looks(rows, likeliest(len(rows)))
            self.assertEqual(found[0][0], total(rows), rows)

    def test_behind_changes(self):
        found = run_on(PATH, forget(1), likeliest(2), set_often(3, 0, 9), likeliest(2))
        self.assertEqual(found, [[2], [6, 0, 1, 0, 0], [0], [13, 0, 0, 0, 1]])

    def test_against_every_row(self):
        for rows in many_tables(250):
            counts = range(1, len(rows) + 1)
            found = run_looks(rows, *[likeliest(k) for k in counts])
            self.assertEqual(found, [likeliest_by_every_row(rows, k) for k in counts], rows)


if __name__ == "__main__":
    unittest.main()
