"""Point 4: mixed_two, good_two, greedy_two."""

import unittest

from helper import (ALL_WITH_ALL, LARGEST, Mixer, NOTHING, NO_SUCH, PATH, RING, WRONG, fewest, forget, good_two,
                    greedy_two, many_tables, mixed, mixed_two, never_mistaken_of_two, run_looks, run_on, set_often,
                    twos_of)


def mixed_by_both(rows, two, other):
    """Some y of the first use and some y of the second come with either two."""
    def shared(x, z):
        return any(first and second for first, second in zip(rows[x], rows[z]))
    return two != other and shared(two[0], other[0]) and shared(two[1], other[1])


def two_by_two(rows):
    twos = twos_of(rows)
    given = {}
    for at, two in enumerate(twos):
        taken = {given[ahead] for ahead in twos[:at] if mixed_by_both(rows, ahead, two)}
        given[two] = min(letter for letter in range(len(twos)) if letter not in taken)
    return [given[two] for two in twos]


class MixedTwoTest(unittest.TestCase):
    def test_mixed_at_both_uses(self):
        self.assertEqual(run_looks(PATH, mixed_two(0, 0, 1, 1), mixed_two(1, 1, 0, 0)), [[1], [1]])
        self.assertEqual(run_looks(PATH, mixed_two(0, 1, 1, 2), mixed_two(1, 2, 0, 1)), [[1], [1]])

    def test_the_twos_are_x_with_z_and_u_with_v(self):
        # 0 and 1 are mixed, 2 and 1 are; were it x with u, 0 and 2 would have to be.
        self.assertEqual(run_looks(PATH, mixed_two(0, 2, 1, 1)), [[1]])
        self.assertEqual(run_looks(PATH, mixed_two(0, 1, 2, 1)), [[0]])

    def test_mixed_at_one_use_alone(self):
        found = run_looks(PATH, mixed_two(0, 0, 1, 2), mixed_two(0, 0, 2, 1), mixed_two(0, 1, 2, 0),
                          mixed_two(0, 0, 1, 3))
        self.assertEqual(found, [[0], [0], [0], [0]])

    def test_never_with_itself(self):
        for rows in (PATH, RING, NOTHING, ALL_WITH_ALL, [[1]]):
            found = run_looks(rows, *[mixed_two(x, z, x, z) for x, z in twos_of(rows)])
            self.assertEqual(found, [[0]] * len(rows) ** 2)

    def test_the_same_at_one_use_that_comes_with_some_y(self):
        found = run_looks(PATH, mixed_two(0, 0, 0, 1), mixed_two(0, 0, 1, 0), mixed_two(2, 1, 2, 2),
                          mixed_two(0, 0, 0, 2))
        self.assertEqual(found, [[1], [1], [1], [0]])

    def test_the_same_at_one_use_that_never_comes(self):
        found = run_looks(PATH, mixed_two(3, 0, 3, 1), mixed_two(0, 3, 1, 3), mixed_two(3, 3, 3, 0))
        self.assertEqual(found, [[0], [0], [0]])
        found = run_on(PATH, mixed_two(3, 0, 3, 1), set_often(3, 2, 1), mixed_two(3, 0, 3, 1), forget(2),
                       mixed_two(3, 0, 3, 1))
        self.assertEqual(found, [[0], [0], [1], [2], [0]])

    def test_nothing_comes(self):
        found = run_looks(NOTHING, mixed_two(0, 0, 0, 1), mixed_two(0, 1, 2, 2), mixed_two(2, 0, 1, 0))
        self.assertEqual(found, [[0], [0], [0]])

    def test_all_comes_with_all(self):
        found = run_looks(ALL_WITH_ALL, mixed_two(0, 0, 4, 4), mixed_two(0, 3, 0, 4), mixed_two(1, 2, 2, 2))
        self.assertEqual(found, [[1], [1], [1]])

    def test_no_such(self):
        for number in (4, 5, LARGEST):
            for at in range(4):
                xs = [0, 1, 2, 3]
                xs[at] = number
                self.assertEqual(run_looks(PATH, mixed_two(*xs)), [[NO_SUCH]], xs)
        self.assertEqual(run_looks(PATH, mixed_two(LARGEST, 4, 4, LARGEST)), [[NO_SUCH]])

    def test_all_four_are_x_not_y(self):
        self.assertEqual(run_looks(PATH, mixed_two(3, 3, 3, 3)), [[0]])
        for xs in ([1, 0, 0, 0], [0, 1, 0, 0], [0, 0, 1, 0], [0, 0, 0, 1]):
            self.assertEqual(run_looks([[1, 1, 1]], mixed_two(*xs)), [[NO_SUCH]], xs)

    def test_every_two_with_every_two(self):
        for rows in many_tables(25):
            for two in twos_of(rows):
                found = run_looks(rows, *[mixed_two(*two, *other) for other in twos_of(rows)])
                expected = [[1 if mixed_by_both(rows, two, other) else 0] for other in twos_of(rows)]
                self.assertEqual(found, expected, (rows, two))


class GoodTwoTest(unittest.TestCase):
    def test_two_mixed_need_four(self):
        rows = [[1], [1]]
        found = run_looks(rows, good_two([0, 1, 2, 3]), good_two([3, 1, 0, 2]), good_two([0, 1, 1, 2]),
                          good_two([0, 1, 2, 0]), good_two([0, 0, 1, 2]), good_two([0, 0, 0, 0]))
        self.assertEqual(found, [[1], [1], [0], [0], [0], [0]])

    def test_ring_does_with_five_fewer_than_three_times_three(self):
        letters = [(z - 2 * x) % 5 for x, z in twos_of(RING)]
        self.assertEqual(run_looks(RING, fewest(), good_two(letters)), [[3], [1]])
        for at in range(25):
            for letter in range(5):
                others = list(letters)
                others[at] = letter
                expected = 1 if letter == letters[at] else 0
                self.assertEqual(run_looks(RING, good_two(others)), [[expected]], others)

    def test_ring_slanted_the_other_way_does_not(self):
        self.assertEqual(run_looks(RING, good_two([(z - x) % 5 for x, z in twos_of(RING)])), [[0]])

    def test_turned_round_they_are_as_good(self):
        # 0 and 1 alone are mixed, but 2 comes too: 0 with 2 and 1 with 2 are mixed, and so are 2 with 0 and 2 with 1.
        rows = [[1, 0], [1, 0], [0, 1]]
        for letters, expected in (([0, 1, 0, 2, 3, 1, 0, 1, 2], [1]), ([0, 1, 0, 2, 3, 0, 0, 1, 2], [0])):
            turned = [letters[3 * z + x] for x, z in twos_of(rows)]
            self.assertEqual(run_looks(rows, good_two(letters), good_two(turned)), [expected] * 2, letters)

    def test_an_x_that_never_comes_may_share(self):
        self.assertEqual(run_looks([[1], [1], [0]], good_two([0, 1, 0, 2, 3, 0, 0, 0, 0])), [[1]])
        self.assertEqual(run_looks([[1, 0], [1, 0], [0, 1]], good_two([0, 1, 0, 2, 3, 0, 0, 0, 0])), [[0]])

    def test_nothing_comes(self):
        self.assertEqual(run_looks(NOTHING, good_two([0] * 9), good_two([8] * 9)), [[1], [1]])

    def test_all_different(self):
        for rows in (PATH, RING, NOTHING, ALL_WITH_ALL, [[1]]):
            count = len(rows) ** 2
            self.assertEqual(run_looks(rows, good_two(list(range(count))[::-1])), [[1]])

    def test_all_comes_with_all(self):
        for at in range(1, 25):
            letters = list(range(25))
            letters[at] = at - 1
            self.assertEqual(run_looks(ALL_WITH_ALL, good_two(letters)), [[0]], letters)

    def test_one_x(self):
        self.assertEqual(run_looks([[1, 1]], good_two([0]), good_two([1]), good_two([])), [[1], [WRONG], [WRONG]])

    def test_not_one_for_each_two(self):
        for x_count in range(1, 6):
            rows = [[1, 1] for x in range(x_count)]
            for count in range(26):
                if count != x_count ** 2:
                    self.assertEqual(run_looks(rows, good_two([0] * count)), [[WRONG]], (x_count, count))

    def test_a_letter_that_is_just_how_many_twos_there_are(self):
        for x_count in range(1, 6):
            rows = [[0] for x in range(x_count)]
            count = x_count ** 2
            for at in (0, count // 2, count - 1):
                for letter, expected in ((count - 1, 1), (count, WRONG), (count + 1, WRONG), (LARGEST, WRONG)):
                    letters = [0] * count
                    letters[at] = letter
                    self.assertEqual(run_looks(rows, good_two(letters)), [[expected]], letters)

    def test_who_knows_both_y_knows_both_x(self):
        mixer = Mixer(17)
        outcomes = set()
        for rows in many_tables(400):
            letters = mixer.letters(len(rows) ** 2)
            expected = 1 if never_mistaken_of_two(rows, letters) else 0
            self.assertEqual(run_looks(rows, good_two(letters)), [[expected]], (rows, letters))
            outcomes.add((len(rows), expected))
        self.assertTrue(outcomes >= {(x_count, do) for x_count in (2, 3, 4, 5) for do in (0, 1)}, outcomes)


class GreedyTwoTest(unittest.TestCase):
    def test_one_x(self):
        self.assertEqual(run_looks([[1]], greedy_two()), [[1, 0]])
        self.assertEqual(run_looks([[0, 0]], greedy_two()), [[1, 0]])

    def test_two_x(self):
        self.assertEqual(run_looks([[1], [1]], greedy_two()), [[4, 0, 1, 2, 3]])
        self.assertEqual(run_looks([[1, 0], [0, 1]], greedy_two()), [[1, 0, 0, 0, 0]])
        self.assertEqual(run_looks([[0], [1]], greedy_two()), [[1, 0, 0, 0, 0]])

    def test_three_in_a_row(self):
        self.assertEqual(run_looks([[1, 0], [1, 1], [0, 1]], greedy_two()), [[4, 0, 1, 0, 2, 3, 2, 0, 1, 0]])

    def test_an_x_that_never_comes(self):
        self.assertEqual(run_looks([[1], [1], [0]], greedy_two()), [[4, 0, 1, 0, 2, 3, 0, 0, 0, 0]])
        self.assertEqual(run_looks([[0], [1], [1]], greedy_two()), [[4, 0, 0, 0, 0, 0, 1, 0, 2, 3]])

    def test_nothing_comes(self):
        self.assertEqual(run_looks(NOTHING, greedy_two()), [[1] + [0] * 9])

    def test_all_comes_with_all(self):
        self.assertEqual(run_looks(ALL_WITH_ALL, greedy_two()), [[25] + list(range(25))])

    def test_one_y(self):
        found = run_looks([[3], [0], [3]], greedy_two())
        self.assertEqual(found, [[4, 0, 0, 1, 0, 0, 0, 2, 0, 3]])

    def test_ring(self):
        letters = [0, 1, 0, 1, 2,
                   3, 2, 3, 4, 5,
                   0, 1, 0, 1, 2,
                   3, 2, 3, 4, 5,
                   4, 5, 6, 7, 6]
        self.assertEqual(run_looks(RING, greedy_two(), good_two(letters)), [[8] + letters, [1]])

    def test_behind_changes(self):
        found = run_on([[1, 1], [1, 0]], greedy_two(), forget(0), mixed(0, 1), greedy_two(), set_often(1, 0, 2),
                       greedy_two())
        self.assertEqual(found, [[4, 0, 1, 2, 3], [1], [0], [1, 0, 0, 0, 0], [0], [4, 0, 1, 2, 3]])

    def test_many_tables(self):
        for rows in many_tables(150):
            letters = two_by_two(rows)
            found = run_looks(rows, greedy_two(), good_two(letters))
            self.assertEqual(found, [[len(set(letters))] + letters, [1]], rows)


if __name__ == "__main__":
    unittest.main()
