"""What holds, a to e, on many tables, and the corners."""

import unittest

from helper import (ALL_WITH_ALL, LARGEST, Mixer, NOTHING, PATH, RING, all_told, apart, begin, best, clash, crowd,
                    fewest, forget, good, good_two, greedy_two, likeliest, many_tables, may, mixed, mixed_two,
                    mixed_with, often, row, run, run_looks, run_on, set_often, small_tables, sure, told, twos_of,
                    ways, whole, why)

TABLES = list(small_tables()) + many_tables(300, seed=9)


def some_letters(rows, mixer):
    """Rows of letters of which some do and some don't: thrown ones, the row told, and one that's all different."""
    x_count = len(rows)
    told_row = run_on(rows, best())[0][1:]
    return [mixer.letters(x_count), mixer.letters(x_count), told_row, list(range(x_count))]


def each_look(rows):
    """Every call that only looks, with numbers that are there."""
    x_count, y_count = len(rows), len(rows[0])
    letters = [0] * x_count
    return [may(0, y_count - 1), mixed(0, x_count - 1), mixed_with(0), good(letters), clash(letters), fewest(), best(),
            ways(1), crowd(), why(), apart(), told(0, 0, letters), sure(0), good_two([0] * x_count ** 2), greedy_two(),
            mixed_two(0, 0, x_count - 1, 0), often(letters), likeliest(1), all_told()]


REFUSED = [
    begin(0, 1), begin(6, 1), begin(1, LARGEST), set_often(LARGEST, 0, 1), set_often(0, 0, 10), row(5, [1]),
    row(0, [10] * 5), row(0, []), forget(5), forget(LARGEST), may(5, 0), mixed(0, 5), mixed_with(5), good([]),
    good([5] * 5), clash([]), told(0, 0, []), told(0, 5, [0] * 5), sure(5), good_two([]), good_two([25] * 25),
    mixed_two(0, 0, 0, 5), often([]), often([5] * 5), likeliest(0), likeliest(6),
]


class NeverMistakenTest(unittest.TestCase):
    """a."""

    def test_each_letter_with_each_y_leaves_one_x_just_if_they_do(self):
        mixer = Mixer(3)
        for rows in TABLES:
            for letters in some_letters(rows, mixer):
                heard = [told(c, y, letters) for c in sorted(set(letters)) for y in range(len(rows[0]))]
                found = run_looks(rows, good(letters), *heard)
                never = all(answer[0] <= 1 for answer in found[1:])
                self.assertEqual(found[0], [1 if never else 0], (rows, letters))

    def test_what_is_told_over_all_letters_is_what_is_sure(self):
        mixer = Mixer(4)
        for rows in TABLES:
            letters = mixer.letters(len(rows))
            found = run_looks(rows, sure(0), *[told(c, 0, letters) for c in range(len(rows))])
            self.assertEqual(sorted(x for answer in found[1:] for x in answer[1:]), found[0][1:], (rows, letters))


class NoFewerTest(unittest.TestCase):
    """b."""

    def test_no_fewer_than_are_crowded_or_all_mixed(self):
        for rows in TABLES:
            found = run_looks(rows, crowd(), why(), fewest(), best())
            self.assertLessEqual(found[0][0], found[2][0], rows)
            self.assertLessEqual(found[1][0], found[2][0], rows)
            self.assertLessEqual(max(found[0][0], 1), found[1][0], rows)
            self.assertEqual(found[2][0], found[3][0], rows)

    def test_all_x_are_no_more_than_fewest_times_apart(self):
        for rows in TABLES:
            found = run_looks(rows, fewest(), apart())
            self.assertLessEqual(len(rows), found[0][0] * found[1][0], rows)

    def test_why_is_all_mixed_and_apart_none(self):
        for rows in TABLES:
            all_mixed, none_mixed = [answer[1:] for answer in run_looks(rows, why(), apart())]
            for group, expected in ((all_mixed, [1]), (none_mixed, [0])):
                twos = [mixed(x, z) for x in group for z in group if x < z]
                self.assertEqual(run_looks(rows, *twos), [expected] * len(twos), rows)

    def test_fewest_letters_are_right_always_and_fewer_are_not(self):
        for rows in TABLES:
            few = run_on(rows, fewest())[0][0]
            found = run_looks(rows, *[likeliest(k) for k in range(1, len(rows) + 1)])
            total = sum(sum(line) for line in rows)
            always = [answer[0] == total for answer in found]
            self.assertEqual(always, [k >= few for k in range(1, len(rows) + 1)], rows)


class TwiceTest(unittest.TestCase):
    """c."""

    def test_letters_for_one_use_told_twice_do(self):
        for rows in TABLES:
            count, *letters = run_on(rows, best())[0]
            twice = [letters[x] * count + letters[z] for x, z in twos_of(rows)]
            self.assertEqual(run_looks(rows, good_two(twice)), [[1]], rows)

    def test_letters_that_do_not_told_twice_do_not(self):
        mixer = Mixer(8)
        for rows in TABLES:
            letters = mixer.letters(len(rows))
            twice = [letters[x] * len(rows) + letters[z] for x, z in twos_of(rows)]
            found = run_looks(rows, good(letters), good_two(twice))
            self.assertEqual(found[0], found[1], (rows, letters))

    def test_those_that_come_two_by_two_do(self):
        for rows in TABLES:
            count, *letters = run_on(rows, greedy_two())[0]
            self.assertEqual(count, len(set(letters)), rows)
            self.assertEqual(run_looks(rows, good_two(letters)), [[1]], rows)

    def test_good_two_is_by_mixed_two(self):
        mixer = Mixer(12)
        for rows in many_tables(50):
            letters = mixer.letters(len(rows) ** 2)
            do = True
            for at, two in enumerate(twos_of(rows)):
                same = [other for ahead, other in enumerate(twos_of(rows)[:at]) if letters[ahead] == letters[at]]
                found = run_looks(rows, *[mixed_two(*two, *other) for other in same])
                do = do and [1] not in found
            self.assertEqual(run_looks(rows, good_two(letters)), [[1 if do else 0]], (rows, letters))


class RightAlwaysTest(unittest.TestCase):
    """d."""

    def test_right_always_just_if_the_letters_do(self):
        mixer = Mixer(6)
        for rows in TABLES:
            for letters in some_letters(rows, mixer):
                found = run_looks(rows, often(letters), good(letters))
                self.assertLessEqual(found[0][0], found[0][1])
                self.assertEqual(found[1], [1 if found[0][0] == found[0][1] else 0], (rows, letters))

    def test_likeliest_is_as_often_right_as_it_says(self):
        for rows in TABLES:
            for k in range(1, len(rows) + 1):
                right, *letters = run_on(rows, likeliest(k))[0]
                self.assertEqual(run_looks(rows, often(letters))[0][0], right, rows)
                self.assertLessEqual(len(set(letters)), k)


class LessAndNothingTest(unittest.TestCase):
    """e."""

    def test_less_that_comes_together_no_more_letters(self):
        mixer = Mixer(2)
        for rows in TABLES:
            x, y = mixer.below(len(rows)), mixer.below(len(rows[0]))
            found = run_on(rows, fewest(), set_often(x, y, 0), fewest())
            self.assertLessEqual(found[2][0], found[0][0], (rows, x, y))
            if len(rows[0]) > 1:
                found = run_on(rows, fewest(), forget(y), fewest())
                self.assertLessEqual(found[2][0], found[0][0], (rows, y))

    def test_looking_changes_nothing(self):
        for rows in TABLES:
            looks = each_look(rows)
            found = run_looks(rows, *looks, *looks)
            self.assertEqual(found[:len(looks)], found[len(looks):], rows)

    def test_each_look_alone_changes_nothing(self):
        for rows in (PATH, RING, NOTHING, ALL_WITH_ALL):
            for look in each_look(rows):
                run_looks(rows, look)

    def test_what_is_refused_changes_nothing(self):
        for rows in [PATH] + many_tables(50):
            for call in REFUSED:
                found = run_looks(rows, call)
                self.assertEqual(len(found[0]), 1, (rows, call))
                self.assertLess(found[0][0], 0, (rows, call))

    def test_looks_answer_the_same_behind_what_is_refused(self):
        for rows in many_tables(10):
            looks = each_look(rows)
            ahead = run_on(rows, *looks)
            self.assertEqual(run_on(rows, *REFUSED, *looks)[len(REFUSED):], ahead, rows)


class CornersTest(unittest.TestCase):
    def test_nothing_comes(self):
        found = run_looks(NOTHING, crowd(), why(), apart(), sure(0), told(0, 0, [0, 0, 0]), good_two([0] * 9),
                          greedy_two(), mixed_two(0, 0, 0, 1), often([0, 0, 0]), likeliest(3))
        self.assertEqual(found, [[0, 0], [1, 0], [3, 0, 1, 2], [0], [0], [1], [1] + [0] * 9, [0], [0, 0], [0, 0, 0, 0]])

    def test_all_comes_with_all(self):
        found = run_looks(ALL_WITH_ALL, crowd(), why(), apart(), sure(0), told(1, 0, [0, 1, 1, 1, 0]),
                          greedy_two(), mixed_two(0, 0, 0, 1), often([0, 1, 1, 1, 0]), likeliest(5))
        self.assertEqual(found, [[5, 0], [5, 0, 1, 2, 3, 4], [1, 0], [5, 0, 1, 2, 3, 4], [3, 1, 2, 3],
                                 [25] + list(range(25)), [1], [10, 25], [25, 0, 1, 2, 3, 4]])

    def test_an_x_that_never_comes(self):
        rows = [[2], [0], [3]]
        found = run_looks(rows, crowd(), why(), apart(), sure(0), told(0, 0, [0, 0, 0]), greedy_two(),
                          mixed_two(1, 0, 1, 2), mixed_two(0, 0, 0, 2), often([0, 0, 0]), likeliest(2))
        self.assertEqual(found, [[2, 0], [2, 0, 2], [2, 0, 1], [2, 0, 2], [2, 0, 2], [4, 0, 0, 1, 0, 0, 0, 2, 0, 3],
                                 [0], [1], [3, 5], [5, 0, 0, 1]])

    def test_a_ring_of_five(self):
        found = run_looks(RING, *[mixed_with(x) for x in range(5)], fewest(), crowd(), why(), apart())
        self.assertEqual([answer[0] for answer in found], [2, 2, 2, 2, 2, 3, 2, 2, 2])

    def test_one_x(self):
        found = run_looks([[3, 0]], crowd(), why(), apart(), sure(1), told(0, 0, [0]), good_two([0]), greedy_two(),
                          mixed_two(0, 0, 0, 0), often([0]), likeliest(1))
        self.assertEqual(found, [[1, 0], [1, 0], [1, 0], [0], [1, 0], [1], [1, 0], [0], [3, 3], [3, 0]])

    def test_one_y_is_as_crowded_as_mixed(self):
        for rows in TABLES:
            if len(rows[0]) == 1:
                found = run_looks(rows, crowd(), why(), fewest())
                self.assertEqual([max(1, found[0][0])] * 2, [found[1][0], found[2][0]], rows)

    def test_letters_that_are_all_different(self):
        for rows in TABLES:
            letters = list(range(len(rows)))
            total = sum(sum(line) for line in rows)
            found = run_looks(rows, good(letters), often(letters), good_two(list(range(len(rows) ** 2))))
            self.assertEqual(found, [[1], [total, total], [1]], rows)

    def test_two_uses_that_need_fewer_than_twice(self):
        letters = [(z - 2 * x) % 5 for x, z in twos_of(RING)]
        few, do = [answer[0] for answer in run_looks(RING, fewest(), good_two(letters))]
        self.assertEqual(do, 1)
        self.assertLess(len(set(letters)), few * few)

    def test_begin_again_forgets_all(self):
        found = run(begin(5, 5), *[row(x, RING[x]) for x in range(5)], begin(3, 3), all_told(), *each_look(NOTHING))
        self.assertEqual(found[7], whole(NOTHING))
        self.assertEqual(found[8:], run_on(NOTHING, *each_look(NOTHING)))


if __name__ == "__main__":
    unittest.main()
