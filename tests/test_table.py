"""Point 1: begin, set, row, forget, all."""

import unittest

from helper import (ALL_WITH_ALL, LARGEST, NOTHING, NO_SUCH, ONE_ALONE, PATH, RING, WRONG, all_told, begin, best,
                    fewest, forget, look_at_all, many_tables, may, mixed, mixed_with, numbers_of, row, run, run_looks,
                    run_on, seen, set_often, table_calls, take_out, whole)


class StaysTest(unittest.TestCase):
    def assert_stays(self, rows, call, refusal):
        """The call is refused, and the whole table is as it was, number by number."""
        looks = look_at_all(len(rows), len(rows[0]))
        found = run_on(rows, call, *looks, *take_out(rows))
        self.assertEqual(found, [[refusal]] + seen(rows) + numbers_of(rows), call)
        self.assertEqual(run_looks(rows, call), [[refusal]], call)


class BeginTest(StaysTest):
    def test_each_size(self):
        for x in range(1, 6):
            for y in range(1, 6):
                rows = [[0] * y for each in range(x)]
                found = run(begin(x, y), *look_at_all(x, y))
                self.assertEqual(found, [[0]] + seen(rows), (x, y))

    def test_wrong_sizes(self):
        for x, y in ((0, 1), (1, 0), (0, 0), (6, 1), (1, 6), (6, 6), (0, 6), (LARGEST, 1), (1, LARGEST)):
            self.assertEqual(run(begin(x, y)), [[WRONG]], (x, y))

    def test_nothing_comes_at_first(self):
        self.assertEqual(run(begin(2, 2), *take_out([[0] * 2] * 2)), [[0]] * 5)

    def test_again_the_table_is_new(self):
        found = run(*table_calls(PATH), begin(4, 3), *look_at_all(4, 3), *take_out(PATH))
        blank = [[0] * 3 for x in range(4)]
        self.assertEqual(found[5:], [[0]] + seen(blank) + numbers_of(blank))

    def test_again_with_another_size(self):
        found = run(*table_calls(PATH), begin(1, 5), *look_at_all(1, 5))
        self.assertEqual(found[5:], [[0]] + seen([[0] * 5]))

    def test_refused_the_table_stays(self):
        for x, y in ((0, 1), (1, 0), (6, 1), (1, 6), (LARGEST, LARGEST)):
            self.assert_stays(PATH, begin(x, y), WRONG)


class SetTest(StaysTest):
    def test_answers_how_often_it_was(self):
        found = run(begin(2, 2), set_often(1, 0, 4), set_often(1, 0, 9), set_often(1, 0, 0), set_often(1, 0, 1))
        self.assertEqual(found, [[0], [0], [4], [9], [0]])

    def test_changes_that_one_alone(self):
        for x in range(4):
            for y in range(3):
                rows = [list(line) for line in PATH]
                rows[x][y] = 8
                found = run_on(PATH, set_often(x, y, 8), *take_out(PATH))
                self.assertEqual(found, [[PATH[x][y]]] + numbers_of(rows))

    def test_each_w_up_to_nine(self):
        for w in range(10):
            self.assertEqual(run(begin(1, 1), set_often(0, 0, w), set_often(0, 0, 0)), [[0], [0], [w]])

    def test_no_such_x_or_y(self):
        for x, y in ((4, 0), (0, 3), (4, 3), (3, 3), (4, 2), (LARGEST, 0), (0, LARGEST)):
            self.assert_stays(PATH, set_often(x, y, 1), NO_SUCH)

    def test_w_above_nine(self):
        for w in (10, 11, LARGEST):
            self.assert_stays(PATH, set_often(0, 0, w), WRONG)

    def test_no_such_is_told_ahead_of_w(self):
        for x, y in ((4, 0), (0, 3)):
            self.assert_stays(PATH, set_often(x, y, 10), NO_SUCH)


class RowTest(StaysTest):
    def test_sets_that_row_alone(self):
        for x in range(4):
            rows = [list(line) for line in PATH]
            rows[x] = [9, 0, 7]
            self.assertEqual(run_on(PATH, row(x, [9, 0, 7]), *take_out(PATH)), [[0]] + numbers_of(rows))

    def test_each_length(self):
        for y in range(1, 6):
            for count in range(6):
                expected = [0] if count == y else [WRONG]
                self.assertEqual(run(begin(1, y), row(0, [1] * count)), [[0], expected], (y, count))

    def test_same_row_told_for_two_is_kept_apart(self):
        found = run(begin(2, 1), row(0, [3]), row(1, [3]), set_often(0, 0, 5), set_often(1, 0, 0))
        self.assertEqual(found, [[0], [0], [0], [3], [3]])

    def test_no_such_x(self):
        for x in (4, 5, LARGEST):
            self.assert_stays(PATH, row(x, [1, 1, 1]), NO_SUCH)

    def test_too_few_or_too_many(self):
        for count in (0, 1, 2, 4, 5):
            self.assert_stays(PATH, row(1, [1] * count), WRONG)

    def test_one_above_nine(self):
        for how_often in ([10, 0, 0], [0, 10, 0], [0, 0, 10], [LARGEST] * 3):
            self.assert_stays(PATH, row(1, how_often), WRONG)
        self.assertEqual(run_on(PATH, row(1, [9, 9, 9])), [[0]])

    def test_no_such_is_told_ahead_of_wrong(self):
        for how_often in ([], [1] * 5, [10, 10, 10]):
            self.assert_stays(PATH, row(4, how_often), NO_SUCH)


class ForgetTest(StaysTest):
    def test_first_middle_and_last(self):
        for y in range(3):
            rows = [line[:y] + line[y + 1:] for line in PATH]
            found = run_on(PATH, forget(y), *look_at_all(4, 2), *take_out(rows))
            self.assertEqual(found, [[2]] + seen(rows) + numbers_of(rows), y)

    def test_down_to_one(self):
        found = run(begin(1, 5), row(0, [1, 2, 3, 4, 5]), forget(4), forget(0), forget(1), forget(1), forget(0),
                    set_often(0, 0, 0))
        self.assertEqual(found, [[0], [0], [4], [3], [2], [1], [ONE_ALONE], [2]])

    def test_one_alone_stays(self):
        self.assert_stays([[3], [4]], forget(0), ONE_ALONE)

    def test_no_such_y(self):
        for y in (3, 4, LARGEST):
            self.assert_stays(PATH, forget(y), NO_SUCH)

    def test_no_such_is_told_ahead_of_one_alone(self):
        for y in (1, LARGEST):
            self.assert_stays([[3], [4]], forget(y), NO_SUCH)

    def test_what_was_mixed_by_it_is_not_so_any_more(self):
        found = run_on(PATH, mixed(0, 1), forget(0), mixed(0, 1), mixed(1, 2), mixed_with(1))
        self.assertEqual(found, [[1], [2], [0], [1], [1, 2]])

    def test_rows_are_as_long_as_what_is_left(self):
        found = run_on(PATH, forget(1), row(0, [1, 1, 1]), row(0, [1, 1]), may(0, 2))
        self.assertEqual(found, [[2], [WRONG], [0], [NO_SUCH]])

    def test_a_begin_brings_them_back(self):
        self.assertEqual(run(begin(1, 2), forget(0), begin(1, 2), forget(1)), [[0], [1], [0], [1]])

    def test_less_that_comes_no_more_letters(self):
        found = run_on(PATH, fewest(), forget(1), fewest(), best(), forget(0), fewest())
        self.assertEqual(found, [[2], [2], [2], [2, 0, 1, 0, 0], [1], [1]])


class AllToldTest(unittest.TestCase):
    def test_path(self):
        self.assertEqual(run_on(PATH, all_told()), [[4, 3, 2, 0, 1, 3, 4, 0, 0, 5, 0, 0, 0, 0]])

    def test_how_many_x_stands_ahead_of_how_many_y(self):
        self.assertEqual(run_on([[1, 2, 3]], all_told()), [[1, 3, 1, 2, 3]])
        self.assertEqual(run_on([[1], [2], [3]], all_told()), [[3, 1, 1, 2, 3]])

    def test_nothing_comes(self):
        for x in range(1, 6):
            for y in range(1, 6):
                self.assertEqual(run(begin(x, y), all_told()), [[0], [x, y] + [0] * (x * y)])

    def test_all_comes_with_all(self):
        self.assertEqual(run_on(ALL_WITH_ALL, all_told()), [[5, 5] + [1] * 25])

    def test_one_x_and_one_y(self):
        self.assertEqual(run_on([[9]], all_told()), [[1, 1, 9]])

    def test_looking_changes_nothing(self):
        for rows in (PATH, RING, NOTHING):
            self.assertEqual(run_on(rows, all_told(), all_told()), [whole(rows), whole(rows)])

    def test_behind_changes(self):
        found = run(begin(2, 3), set_often(1, 0, 4), row(0, [1, 2, 3]), all_told(), forget(1), all_told(), begin(1, 1),
                    all_told(), begin(0, 1), all_told())
        self.assertEqual(found, [[0], [0], [0], [2, 3, 1, 2, 3, 4, 0, 0], [2], [2, 2, 1, 3, 4, 0], [0], [1, 1, 0],
                                 [WRONG], [1, 1, 0]])

    def test_many_tables(self):
        for rows in many_tables(100):
            self.assertEqual(run_on(rows, all_told()), [whole(rows)])


if __name__ == "__main__":
    unittest.main()
