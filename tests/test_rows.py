"""Point 3: good, clash, fewest, best, ways; and what holds of them."""

import itertools
import unittest

from helper import (ALL_WITH_ALL, FIVE, LARGEST, NOTHING, PATH, RING, THEY_DO, WRONG, WRONG_FOR_FOUR, all_rows, best,
                    clash, fewest, good, mixed_with, never_mistaken, numbered_as_they_come, numbers_of, run_on,
                    small_tables, take_out, ways)


def rows_that_do(rows):
    return [letters for letters in all_rows(len(rows)) if never_mistaken(rows, letters)]


def numbered_rows_that_do(rows):
    return [letters for letters in rows_that_do(rows) if numbered_as_they_come(letters)]


class GoodTest(unittest.TestCase):
    def test_path(self):
        found = run_on(PATH, good([0, 1, 0, 0]), good([3, 2, 3, 2]), good([0, 0, 1, 2]), good([0, 1, 1, 0]),
                       good([0, 1, 2, 3]), good([0, 0, 0, 0]))
        self.assertEqual(found, [[1], [1], [0], [0], [1], [0]])

    def test_all_different_always_do(self):
        for rows in FIVE:
            for letters in ([0, 1, 2, 3, 4], [4, 3, 2, 1, 0], [2, 0, 4, 1, 3]):
                self.assertEqual(run_on(rows, good(letters)), [[1]])

    def test_nothing_comes(self):
        self.assertEqual(run_on(NOTHING, good([0, 0, 0]), good([2, 2, 2])), [[1], [1]])

    def test_ring(self):
        found = run_on(RING, good([0, 1, 0, 1, 2]), good([0, 1, 0, 1, 0]), good([0, 1, 0, 1, 1]))
        self.assertEqual(found, [[1], [0], [0]])

    def test_one_x(self):
        self.assertEqual(run_on([[1, 1]], good([0]), good([1]), good([])), [[1], [WRONG], [WRONG]])

    def test_wrong_letters(self):
        for letters in WRONG_FOR_FOUR:
            self.assertEqual(run_on(PATH, good(letters)), [[WRONG]], letters)

    def test_letters_are_below_how_many_x_not_y(self):
        self.assertEqual(run_on(PATH, good([3, 0, 3, 3])), [[1]])
        self.assertEqual(run_on([[1, 1, 1], [1, 1, 1]], good([0, 2])), [[WRONG]])


class ClashTest(unittest.TestCase):
    def test_path(self):
        found = run_on(PATH, clash([0, 0, 0, 0]), clash([0, 1, 1, 0]), clash([3, 3, 1, 0]), clash([0, 1, 0, 0]))
        self.assertEqual(found, [[0, 1, 0], [1, 2, 1], [0, 1, 0], [THEY_DO]])

    def test_the_first_later_one_and_the_first_y(self):
        rows = [[0, 1, 1], [1, 0, 0], [1, 1, 1], [0, 1, 1]]
        found = run_on(rows, clash([0, 0, 0, 0]), clash([0, 0, 1, 0]), clash([0, 1, 1, 2]), clash([0, 1, 2, 2]))
        self.assertEqual(found, [[0, 2, 1], [0, 3, 1], [1, 2, 0], [2, 3, 1]])

    def test_the_same_letter_without_being_mixed(self):
        self.assertEqual(run_on(NOTHING, clash([0, 0, 0])), [[THEY_DO]])
        self.assertEqual(run_on(RING, clash([0, 1, 0, 2, 0])), [[0, 4, 0]])

    def test_all_with_all(self):
        found = run_on(ALL_WITH_ALL, clash([0, 1, 2, 3, 4]), clash([0, 1, 2, 3, 3]), clash([4, 1, 1, 4, 1]))
        self.assertEqual(found, [[THEY_DO], [3, 4, 0], [0, 3, 0]])

    def test_one_x(self):
        self.assertEqual(run_on([[1, 1]], clash([0])), [[THEY_DO]])

    def test_wrong_letters(self):
        for letters in WRONG_FOR_FOUR:
            self.assertEqual(run_on(PATH, clash(letters)), [[WRONG]], letters)

    def test_wrong_is_told_ahead_of_they_do(self):
        self.assertEqual(run_on(NOTHING, clash([0, 1]), clash([0, 1, 3]), clash([0, 1, 2, 3])), [[WRONG]] * 3)


class FewestAndBestTest(unittest.TestCase):
    def test_path(self):
        self.assertEqual(run_on(PATH, fewest(), best()), [[2], [2, 0, 1, 0, 0]])

    def test_ring_of_five(self):
        self.assertEqual(run_on(RING, fewest(), best()), [[3], [3, 0, 1, 0, 1, 2]])

    def test_nothing_comes(self):
        self.assertEqual(run_on(NOTHING, fewest(), best()), [[1], [1, 0, 0, 0]])

    def test_all_with_all(self):
        self.assertEqual(run_on(ALL_WITH_ALL, fewest(), best()), [[5], [5, 0, 1, 2, 3, 4]])

    def test_an_x_that_never_comes(self):
        self.assertEqual(run_on([[0], [1], [1]], fewest(), best()), [[2], [2, 0, 0, 1]])

    def test_one_x(self):
        self.assertEqual(run_on([[5, 5, 5]], fewest(), best()), [[1], [1, 0]])
        self.assertEqual(run_on([[0]], fewest(), best()), [[1], [1, 0]])

    def test_one_y(self):
        self.assertEqual(run_on([[1], [0], [9], [1]], fewest(), best()), [[3], [3, 0, 0, 1, 2]])

    def test_fewest_goes_ahead_of_first(self):
        # A letter given in order, each the least that's free, would take three here.
        rows = [[1, 0, 0], [0, 0, 1], [0, 1, 1], [1, 1, 0]]
        self.assertEqual(run_on(rows, fewest(), best()), [[2], [2, 0, 1, 0, 1]])


class WaysTest(unittest.TestCase):
    def assert_ways(self, rows, expected):
        calls = [ways(k) for k in range(len(expected))]
        self.assertEqual(run_on(rows, *calls), [[number] for number in expected])

    def test_nothing_comes(self):
        self.assert_ways([[0]] * 5, [0, 1, 15, 25, 10, 1, 0, 0])

    def test_ring_of_five(self):
        self.assert_ways(RING, [0, 0, 0, 5, 5, 1, 0])

    def test_all_with_all(self):
        self.assert_ways(ALL_WITH_ALL, [0, 0, 0, 0, 0, 1, 0])

    def test_path(self):
        self.assert_ways(PATH, [0, 0, 2, 4, 1, 0])

    def test_one_x(self):
        self.assert_ways([[1, 2]], [0, 1, 0])

    def test_as_many_as_there_are_x(self):
        for rows in FIVE:
            self.assertEqual(run_on(rows, ways(5)), [[1]])

    def test_more_than_there_are_x(self):
        self.assertEqual(run_on(PATH, ways(5), ways(6), ways(LARGEST)), [[0], [0], [0]])


class EveryRowTest(unittest.TestCase):
    """Against every row of letters, gone through from the words of the document."""

    def assert_rows(self, rows):
        numbered = numbered_rows_that_do(rows)
        least = min(len(set(letters)) for letters in rows_that_do(rows))
        told = [letters for letters in numbered if len(set(letters)) == least][0]
        counts = range(len(rows) + 2)
        expected = [[least], [least] + told]
        expected += [[sum(1 for letters in numbered if len(set(letters)) == k)] for k in counts]
        self.assertEqual(run_on(rows, fewest(), best(), *[ways(k) for k in counts]), expected, rows)

    def first_clash(self, rows, letters):
        for x, z in itertools.combinations(range(len(rows)), 2):
            for y in range(len(rows[0])):
                if letters[x] == letters[z] and rows[x][y] and rows[z][y]:
                    return [x, z, y]
        return [THEY_DO]

    def assert_letters(self, rows, letters):
        expected = [[1 if never_mistaken(rows, letters) else 0], self.first_clash(rows, letters)]
        self.assertEqual(run_on(rows, good(letters), clash(letters)), expected, (rows, letters))

    def test_small_tables(self):
        for rows in small_tables():
            self.assert_rows(rows)

    def test_five(self):
        for rows in FIVE:
            self.assert_rows(rows)

    def test_good_and_clash_on_small_tables(self):
        for rows in small_tables():
            if len(rows) < 4:
                for letters in all_rows(len(rows)):
                    self.assert_letters(rows, letters)

    def test_good_and_clash_on_five(self):
        for rows in FIVE:
            for letters in all_rows(5)[::7]:
                self.assert_letters(rows, letters)


class WhatHoldsTest(unittest.TestCase):
    def test_no_fewer_than_come_with_one_y(self):
        for rows in list(small_tables()) + FIVE:
            crowd = max(sum(1 for line in rows if line[y]) for y in range(len(rows[0])))
            self.assertGreaterEqual(run_on(rows, fewest())[0][0], crowd)

    def test_less_that_comes_together_no_more_letters(self):
        for rows in FIVE:
            whole = run_on(rows, fewest())[0][0]
            for x, y in itertools.product(range(5), range(len(rows[0]))):
                fewer = [list(line) for line in rows]
                fewer[x][y] = 0
                self.assertLessEqual(run_on(fewer, fewest())[0][0], whole)

    def test_how_often_does_not_matter(self):
        oftener = [[w * 9 for w in line] for line in RING]
        looks = [fewest(), best(), ways(3), mixed_with(0), clash([0] * 5), good([0, 1, 0, 1, 2])]
        self.assertEqual(run_on(oftener, *looks), run_on(RING, *looks))

    def test_looking_changes_nothing(self):
        looks = [good([0, 1, 0, 0]), good([0]), clash([0, 0, 0, 0]), clash([0, 1, 2, 3]), clash([9]), fewest(), best(),
                 ways(2), ways(0)]
        found = run_on(PATH, *looks, *looks, *take_out(PATH))
        self.assertEqual(found[:9], found[9:18])
        self.assertEqual(found[18:], numbers_of(PATH))


if __name__ == "__main__":
    unittest.main()
