"""Point 3: why, apart."""

import itertools
import unittest

from helper import (ALL_WITH_ALL, NOTHING, PATH, RING, apart, forget, many_tables, run_looks, run_on, set_often,
                    small_tables, why)


def mixed_by_rows(rows, x, z):
    return any(first and second for first, second in zip(rows[x], rows[z]))


def greatest(rows, wanted):
    """Of the sets each two of which are mixed (wanted) or not, the greatest; of these the one with the least number."""
    sizes_down = range(len(rows), 0, -1)
    for size in sizes_down:
        found = [group for group in itertools.combinations(range(len(rows)), size)
                 if all(mixed_by_rows(rows, x, z) == wanted for x, z in itertools.combinations(group, 2))]
        if found:
            return [size] + list(min(found, key=lambda group: sum(2 ** x for x in group)))
    raise AssertionError("one x by itself is always such a set")


class WhyTest(unittest.TestCase):
    def test_a_tie_is_the_least_number(self):
        self.assertEqual(run_looks(PATH, why()), [[2, 0, 1]])
        self.assertEqual(run_looks(RING, why()), [[2, 0, 1]])

    def test_the_least_number_not_the_first_row(self):
        # 1 and 2 have the number 6, 0 and 3 have 9.
        self.assertEqual(run_looks([[1, 0], [0, 1], [0, 1], [1, 0]], why()), [[2, 1, 2]])
        # 1, 2 and 3 have the number 14, 0, 1 and 4 have 19.
        self.assertEqual(run_looks([[0, 1], [1, 1], [1, 0], [1, 0], [0, 1]], why()), [[3, 1, 2, 3]])

    def test_all_mixed_though_no_y_comes_with_all(self):
        self.assertEqual(run_looks([[1, 0, 1], [1, 1, 0], [0, 1, 1]], why()), [[3, 0, 1, 2]])

    def test_two_by_two_in_a_row_is_not_all_mixed(self):
        self.assertEqual(run_looks([[1, 0], [1, 1], [0, 1]], why()), [[2, 0, 1]])

    def test_nothing_comes(self):
        self.assertEqual(run_looks(NOTHING, why()), [[1, 0]])

    def test_all_comes_with_all(self):
        self.assertEqual(run_looks(ALL_WITH_ALL, why()), [[5, 0, 1, 2, 3, 4]])

    def test_an_x_that_never_comes(self):
        self.assertEqual(run_looks([[0], [1], [1]], why()), [[2, 1, 2]])

    def test_one_x_and_one_y(self):
        self.assertEqual(run_looks([[1, 1]], why()), [[1, 0]])
        self.assertEqual(run_looks([[1], [0], [9], [1]], why()), [[3, 0, 2, 3]])

    def test_behind_changes(self):
        found = run_on(PATH, set_often(3, 1, 1), why(), forget(1), why(), forget(0), why())
        self.assertEqual(found, [[0], [3, 1, 2, 3], [2], [2, 0, 1], [1], [1, 0]])


class ApartTest(unittest.TestCase):
    def test_path(self):
        self.assertEqual(run_looks(PATH, apart()), [[3, 0, 2, 3]])

    def test_a_tie_is_the_least_number(self):
        self.assertEqual(run_looks(RING, apart()), [[2, 0, 2]])
        self.assertEqual(run_looks(ALL_WITH_ALL, apart()), [[1, 0]])

    def test_the_least_number_not_the_first_row(self):
        # Mixed are 0 and 1, 0 and 2, 3 and 1, 3 and 2: 1 and 2 have the number 6, 0 and 3 have 9.
        rows = [[1, 1, 0, 0], [1, 0, 1, 0], [0, 1, 0, 1], [0, 0, 1, 1]]
        self.assertEqual(run_looks(rows, apart()), [[2, 1, 2]])

    def test_nothing_comes(self):
        self.assertEqual(run_looks(NOTHING, apart()), [[3, 0, 1, 2]])

    def test_an_x_that_never_comes_is_mixed_with_none(self):
        self.assertEqual(run_looks([[0], [1], [1]], apart()), [[2, 0, 1]])

    def test_one_x_and_one_y(self):
        self.assertEqual(run_looks([[1, 1]], apart()), [[1, 0]])
        self.assertEqual(run_looks([[1], [0], [9], [0]], apart()), [[3, 0, 1, 3]])

    def test_behind_changes(self):
        found = run_on(PATH, set_often(3, 1, 1), apart(), forget(1), apart())
        self.assertEqual(found, [[0], [2, 0, 2], [2], [3, 0, 2, 3]])


class EverySetTest(unittest.TestCase):
    """Against every set of x, gone through from the words of the document."""

    def assert_sets(self, rows):
        self.assertEqual(run_looks(rows, why(), apart()), [greatest(rows, True), greatest(rows, False)], rows)

    def test_small_tables(self):
        for rows in small_tables():
            self.assert_sets(rows)

    def test_many_tables(self):
        for rows in many_tables(500):
            self.assert_sets(rows)


if __name__ == "__main__":
    unittest.main()
