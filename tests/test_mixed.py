"""Point 2: may, mixed, with."""

import unittest

from helper import (ALL_WITH_ALL, LARGEST, NOTHING, NO_SUCH, PATH, RING, may, mixed, mixed_with, numbers_of, run_on,
                    take_out)


class MayTest(unittest.TestCase):
    def test_each(self):
        for rows in (PATH, RING, NOTHING, ALL_WITH_ALL):
            for x in range(len(rows)):
                for y in range(len(rows[0])):
                    self.assertEqual(run_on(rows, may(x, y)), [[1 if rows[x][y] else 0]], (x, y))

    def test_how_often_is_not_told(self):
        self.assertEqual(run_on([[9, 1]], may(0, 0), may(0, 1)), [[1], [1]])

    def test_no_such(self):
        for x, y in ((4, 0), (0, 3), (4, 3), (3, 3), (LARGEST, 0), (0, LARGEST)):
            self.assertEqual(run_on(PATH, may(x, y)), [[NO_SUCH]], (x, y))

    def test_an_x_and_a_y_of_one_number(self):
        self.assertEqual(run_on(RING, *[may(x, x) for x in range(5)]), [[1]] * 5)
        self.assertEqual(run_on(PATH, may(2, 2), may(3, 3)), [[0], [NO_SUCH]])


class MixedTest(unittest.TestCase):
    def test_path(self):
        expected = [[0, 1, 0, 0], [1, 0, 1, 0], [0, 1, 0, 0], [0, 0, 0, 0]]
        for x in range(4):
            for z in range(4):
                self.assertEqual(run_on(PATH, mixed(x, z)), [[expected[x][z]]], (x, z))

    def test_ring(self):
        for x in range(5):
            for z in range(5):
                expected = 1 if (x - z) % 5 in (1, 4) else 0
                self.assertEqual(run_on(RING, mixed(x, z)), [[expected]], (x, z))

    def test_never_with_itself(self):
        for rows in (PATH, RING, NOTHING, ALL_WITH_ALL, [[1]]):
            calls = [mixed(x, x) for x in range(len(rows))]
            self.assertEqual(run_on(rows, *calls), [[0]] * len(rows))

    def test_nothing_comes(self):
        self.assertEqual(run_on(NOTHING, mixed(0, 1), mixed(2, 0)), [[0], [0]])

    def test_by_any_y(self):
        for y in range(5):
            rows = [[1 if each == y else 0 for each in range(5)] for x in range(2)]
            self.assertEqual(run_on(rows, mixed(0, 1), mixed(1, 0)), [[1], [1]], y)

    def test_one_y(self):
        self.assertEqual(run_on([[2], [0], [3]], mixed(0, 2), mixed(0, 1)), [[1], [0]])

    def test_no_such(self):
        for x, z in ((4, 0), (0, 4), (4, 4), (LARGEST, 0), (0, LARGEST), (LARGEST, LARGEST)):
            self.assertEqual(run_on(PATH, mixed(x, z)), [[NO_SUCH]], (x, z))

    def test_z_is_an_x_not_a_y(self):
        self.assertEqual(run_on(PATH, mixed(0, 3)), [[0]])
        self.assertEqual(run_on([[1, 1, 1]], mixed(0, 1)), [[NO_SUCH]])


class MixedWithTest(unittest.TestCase):
    def test_path(self):
        calls = [mixed_with(x) for x in range(4)]
        self.assertEqual(run_on(PATH, *calls), [[1, 1], [2, 0, 2], [1, 1], [0]])

    def test_ring(self):
        calls = [mixed_with(x) for x in range(5)]
        self.assertEqual(run_on(RING, *calls), [[2, 1, 4], [2, 0, 2], [2, 1, 3], [2, 2, 4], [2, 0, 3]])

    def test_all_with_all(self):
        for x in range(5):
            others = [z for z in range(5) if z != x]
            self.assertEqual(run_on(ALL_WITH_ALL, mixed_with(x)), [[4] + others])

    def test_none(self):
        self.assertEqual(run_on(NOTHING, mixed_with(0)), [[0]])
        self.assertEqual(run_on([[1, 1]], mixed_with(0)), [[0]])

    def test_mixed_by_several_y_is_told_once(self):
        self.assertEqual(run_on([[1, 1, 1], [1, 1, 1]], mixed_with(0)), [[1, 1]])

    def test_no_such(self):
        for x in (4, 5, LARGEST):
            self.assertEqual(run_on(PATH, mixed_with(x)), [[NO_SUCH]], x)


class LookingTest(unittest.TestCase):
    def test_changes_nothing(self):
        looks = [may(0, 0), may(0, 1), may(9, 9), mixed(0, 1), mixed(1, 1), mixed(9, 9), mixed_with(1), mixed_with(9)]
        found = run_on(PATH, *looks, *looks, *take_out(PATH))
        self.assertEqual(found[:8], found[8:16])
        self.assertEqual(found[16:], numbers_of(PATH))


if __name__ == "__main__":
    unittest.main()
