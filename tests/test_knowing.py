"""Point 2: sure, told, crowd."""

import unittest

from helper import (ALL_WITH_ALL, LARGEST, NOTHING, NO_SUCH, PATH, RING, WRONG, WRONG_FOR_FOUR, crowd, forget,
                    many_tables, run_looks, run_on, set_often, sure, told)


class SureTest(unittest.TestCase):
    def test_path(self):
        self.assertEqual(run_looks(PATH, sure(0), sure(1), sure(2)), [[2, 0, 1], [2, 1, 2], [1, 0]])

    def test_nothing_comes(self):
        self.assertEqual(run_looks(NOTHING, sure(0), sure(2)), [[0], [0]])

    def test_all_comes_with_all(self):
        self.assertEqual(run_looks(ALL_WITH_ALL, sure(4)), [[5, 0, 1, 2, 3, 4]])

    def test_ring(self):
        found = run_looks(RING, *[sure(y) for y in range(5)])
        self.assertEqual(found, [[2, 0, 4], [2, 0, 1], [2, 1, 2], [2, 2, 3], [2, 3, 4]])

    def test_one_x_and_one_y(self):
        self.assertEqual(run_looks([[0, 7]], sure(0), sure(1)), [[0], [1, 0]])
        self.assertEqual(run_looks([[2], [0], [9]], sure(0)), [[2, 0, 2]])

    def test_no_such(self):
        for y in (3, 4, 5, LARGEST):
            self.assertEqual(run_looks(PATH, sure(y)), [[NO_SUCH]], y)

    def test_y_is_not_an_x(self):
        self.assertEqual(run_looks([[1, 1, 1]], sure(2), sure(3)), [[1, 0], [NO_SUCH]])
        self.assertEqual(run_looks([[1], [1], [1]], sure(1)), [[NO_SUCH]])

    def test_behind_changes(self):
        found = run_on(PATH, set_often(3, 1, 1), sure(1), forget(0), sure(0), sure(2))
        self.assertEqual(found, [[0], [3, 1, 2, 3], [2], [3, 1, 2, 3], [NO_SUCH]])


class ToldTest(unittest.TestCase):
    def test_path(self):
        letters = [0, 0, 1, 1]
        found = run_looks(PATH, told(0, 0, letters), told(1, 0, letters), told(0, 1, letters), told(1, 1, letters),
                          told(0, 2, letters), told(1, 2, letters))
        self.assertEqual(found, [[2, 0, 1], [0], [1, 1], [1, 2], [1, 0], [0]])

    def test_one_letter_for_all_is_as_sure(self):
        found = run_looks(RING, told(3, 0, [3] * 5), sure(0), told(3, 4, [3] * 5), sure(4))
        self.assertEqual(found, [[2, 0, 4], [2, 0, 4], [2, 3, 4], [2, 3, 4]])

    def test_letters_that_are_all_different(self):
        found = run_looks(ALL_WITH_ALL, *[told(c, 2, [4, 3, 2, 1, 0]) for c in range(5)])
        self.assertEqual(found, [[1, 4], [1, 3], [1, 2], [1, 1], [1, 0]])

    def test_c_that_no_x_has(self):
        found = run_looks(PATH, told(2, 0, [0, 1, 0, 1]), told(3, 0, [0, 1, 0, 1]), told(4, 0, [0, 1, 0, 1]),
                          told(5, 0, [0, 1, 0, 1]), told(LARGEST, 0, [0, 1, 0, 1]))
        self.assertEqual(found, [[0]] * 5)

    def test_an_x_that_never_comes_is_not_told(self):
        self.assertEqual(run_looks(PATH, *[told(2, y, [0, 0, 0, 2]) for y in range(3)]), [[0]] * 3)

    def test_nothing_comes(self):
        self.assertEqual(run_looks(NOTHING, told(0, 0, [0, 0, 0])), [[0]])

    def test_no_such_y(self):
        for y in (3, 4, LARGEST):
            self.assertEqual(run_looks(PATH, told(0, y, [0, 1, 2, 3])), [[NO_SUCH]], y)

    def test_wrong_letters(self):
        for letters in WRONG_FOR_FOUR:
            self.assertEqual(run_looks(PATH, told(0, 0, letters)), [[WRONG]], letters)

    def test_a_letter_that_is_just_how_many_x_there_are(self):
        self.assertEqual(run_looks([[1], [1]], told(1, 0, [1, 1]), told(2, 0, [1, 2])), [[2, 0, 1], [WRONG]])

    def test_wrong_letters_are_told_ahead_of_no_such_y(self):
        for letters in WRONG_FOR_FOUR:
            for y in (3, LARGEST):
                self.assertEqual(run_looks(PATH, told(LARGEST, y, letters)), [[WRONG]], letters)


class CrowdTest(unittest.TestCase):
    def test_a_tie_is_the_first_y(self):
        self.assertEqual(run_looks(PATH, crowd()), [[2, 0]])
        self.assertEqual(run_looks(RING, crowd()), [[2, 0]])
        self.assertEqual(run_looks([[0, 1, 1, 0, 1], [1, 1, 0, 1, 1]], crowd()), [[2, 1]])

    def test_each_y_alone(self):
        for y in range(5):
            rows = [[1 if each == y or x == 0 else 0 for each in range(5)] for x in range(3)]
            self.assertEqual(run_looks(rows, crowd()), [[3, y]])

    def test_how_many_come_not_how_often(self):
        self.assertEqual(run_looks([[9, 1], [0, 1]], crowd()), [[2, 1]])

    def test_nothing_comes(self):
        self.assertEqual(run_looks(NOTHING, crowd()), [[0, 0]])

    def test_all_comes_with_all(self):
        self.assertEqual(run_looks(ALL_WITH_ALL, crowd()), [[5, 0]])

    def test_one_x_and_one_y(self):
        self.assertEqual(run_looks([[0, 0, 4]], crowd()), [[1, 2]])
        self.assertEqual(run_looks([[3], [0], [4]], crowd()), [[2, 0]])
        self.assertEqual(run_looks([[0]], crowd()), [[0, 0]])

    def test_behind_a_forget(self):
        self.assertEqual(run_on(PATH, forget(0), crowd(), forget(0), crowd()), [[2], [2, 0], [1], [1, 0]])

    def test_is_the_greatest_that_sure_tells(self):
        for rows in many_tables(50):
            y_count = len(rows[0])
            found = run_looks(rows, crowd(), *[sure(y) for y in range(y_count)])
            counts = [found[1 + y][0] for y in range(y_count)]
            self.assertEqual(found[0], [max(counts), counts.index(max(counts))], rows)


if __name__ == "__main__":
    unittest.main()
