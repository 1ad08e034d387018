"""The list that is handed in, the list that is given back, and that nothing is kept."""

import unittest

import lettersent.letters
from helper import (LARGEST, PATH, all_told, apart, begin, best, clash, crowd, fewest, forget, good, good_two,
                    greedy_two, likeliest, may, mixed, mixed_two, mixed_with, often, row, run, set_often, split, sure,
                    table_calls, told, ways, why)
from lettersent.letters import answers

EACH_CALL = [
    set_often(0, 0, 1), row(0, [1]), forget(0), may(0, 0), mixed(0, 0), mixed_with(0), good([0]), clash([0]),
    fewest(), best(), ways(1), crowd(), why(), apart(), told(0, 0, [0]), sure(0), good_two([0]), greedy_two(),
    mixed_two(0, 0, 0, 0), often([0]), likeliest(1), all_told(),
]

# Each call on this table stands alone; it is made by begin 2, 2 and two rows, each answered 0.
TWO_BY_TWO = [0, 2, 2, 2, 0, 2, 2, 1, 2, 1, 2, 0, 3]


def flat(calls):
    return [number for call in calls for number in call]


class WholeListTest(unittest.TestCase):
    def test_begin(self):
        self.assertEqual(answers([0, 2, 3]), [1, 0])
        self.assertEqual(answers([0, 0, 3]), [1, -22])

    def test_set(self):
        self.assertEqual(answers([0, 2, 2, 1, 0, 1, 7, 1, 0, 1, 3, 1, 0, 1, 0]), [1, 0, 1, 0, 1, 7, 1, 3])

    def test_row(self):
        self.assertEqual(answers([0, 2, 3, 2, 1, 3, 4, 5, 6, 1, 1, 2, 0]), [1, 0, 1, 0, 1, 6])

    def test_forget(self):
        self.assertEqual(answers([0, 1, 3, 3, 1, 3, 1, 3, 0]), [1, 0, 1, 2, 1, 1, 1, -6])

    def test_may(self):
        self.assertEqual(answers([0, 1, 2, 1, 0, 1, 1, 4, 0, 0, 4, 0, 1]), [1, 0, 1, 0, 1, 0, 1, 1])

    def test_mixed(self):
        self.assertEqual(answers([0, 2, 1, 2, 0, 1, 1, 2, 1, 1, 1, 5, 0, 1]), [1, 0, 1, 0, 1, 0, 1, 1])

    def test_mixed_with(self):
        calls = [0, 3, 1, 2, 0, 1, 1, 2, 1, 1, 1, 2, 2, 1, 1, 6, 1, 6, 9]
        self.assertEqual(answers(calls), [1, 0, 1, 0, 1, 0, 1, 0, 3, 2, 0, 2, 1, -2])

    def test_mixed_with_none(self):
        self.assertEqual(answers([0, 3, 1, 6, 1]), [1, 0, 1, 0])

    def test_good(self):
        calls = [0, 2, 1, 2, 0, 1, 1, 2, 1, 1, 1, 7, 2, 0, 0, 7, 2, 1, 0, 7, 0]
        self.assertEqual(answers(calls), [1, 0, 1, 0, 1, 0, 1, 0, 1, 1, 1, -22])

    def test_clash(self):
        calls = [0, 2, 2, 2, 0, 2, 0, 1, 2, 1, 2, 0, 1, 8, 2, 1, 1, 8, 2, 1, 0, 8, 0]
        self.assertEqual(answers(calls), [1, 0, 1, 0, 1, 0, 3, 0, 1, 1, 1, -33, 1, -22])

    def test_fewest_best_and_ways(self):
        calls = [0, 3, 1, 2, 0, 1, 1, 2, 2, 1, 1, 9, 10, 11, 2]
        self.assertEqual(answers(calls), [1, 0, 1, 0, 1, 0, 1, 2, 4, 2, 0, 0, 1, 1, 2])

    def assert_behind_table(self, calls, expected):
        self.assertEqual(answers(TWO_BY_TWO + calls), [1, 0, 1, 0, 1, 0] + expected)

    def test_crowd(self):
        self.assert_behind_table([12], [2, 2, 1])

    def test_why_and_apart(self):
        self.assert_behind_table([13, 14], [3, 2, 0, 1, 2, 1, 0])

    def test_told(self):
        self.assert_behind_table([15, 1, 1, 2, 0, 1], [2, 1, 1])
        self.assert_behind_table([15, 0, 1, 2, 0, 0], [3, 2, 0, 1])
        self.assert_behind_table([15, 0, 0, 2, 1, 1, 15, 0, 0, 0, 15, 0, 2, 2, 0, 1], [1, 0, 1, -22, 1, -2])

    def test_sure(self):
        self.assert_behind_table([16, 1, 16, 0, 16, 2], [3, 2, 0, 1, 2, 1, 0, 1, -2])

    def test_good_two(self):
        self.assert_behind_table([17, 4, 0, 1, 2, 3, 17, 4, 0, 0, 1, 2, 17, 0], [1, 1, 1, 0, 1, -22])

    def test_greedy_two(self):
        self.assert_behind_table([18], [5, 4, 0, 1, 2, 3])

    def test_mixed_two(self):
        self.assert_behind_table([19, 0, 0, 1, 1, 19, 0, 1, 0, 1, 19, 0, 0, 0, 2], [1, 1, 1, 0, 1, -2])

    def test_often(self):
        self.assert_behind_table([20, 2, 0, 0, 20, 2, 1, 0, 20, 1, 0], [2, 5, 6, 2, 6, 6, 1, -22])

    def test_likeliest(self):
        self.assert_behind_table([21, 1, 21, 2, 21, 3], [3, 5, 0, 0, 3, 6, 0, 1, 1, -22])

    def test_all_told(self):
        self.assert_behind_table([22], [6, 2, 2, 2, 1, 0, 3])

    def test_rows_do_not_run_into_the_next_call(self):
        for count in range(6):
            for number in (7, 8, 20):
                calls = [0, 5, 5, number, count] + [9] * count + [4, 0, 0]
                self.assertEqual(answers(calls), [1, 0, 1, -22, 1, 0])
            calls = [0, 5, 5, 15, 0, 0, count] + [9] * count + [4, 0, 0]
            self.assertEqual(answers(calls), [1, 0, 1, -22, 1, 0])
            calls = [0, 5, 4, 2, 0, count] + [10] * count + [4, 0, 0]
            self.assertEqual(answers(calls), [1, 0, 1, -22, 1, 0])
        for count in range(26):
            calls = [0, 5, 5, 17, count] + [25] * count + [4, 0, 0]
            self.assertEqual(answers(calls), [1, 0, 1, -22, 1, 0])

    def test_sixty_calls(self):
        calls = [0, 5, 5] + [10] * 59
        self.assertEqual(answers(calls), [1, 0] + [6, 1, 0, 0, 0, 0, 0] * 59)

    def test_the_longest_list(self):
        calls = ([17, 25] + [LARGEST] * 25) * 60
        self.assertEqual(len(calls), 1620)
        self.assertEqual(answers(calls), [1, -61] * 60)


class NotBegunTest(unittest.TestCase):
    def test_each_call_alone(self):
        for call in EACH_CALL:
            self.assertEqual(answers(list(call)), [1, -61], call)

    def test_wrong_numbers_are_not_looked_at(self):
        calls = [set_often(9, 9, 99), row(9, []), row(0, [10] * 5), forget(LARGEST), may(LARGEST, LARGEST),
                 mixed(7, 7), mixed_with(LARGEST), good([]), clash([LARGEST] * 5), ways(LARGEST),
                 told(LARGEST, LARGEST, []), sure(LARGEST), good_two([]), good_two([LARGEST] * 25),
                 mixed_two(9, 9, 9, LARGEST), often([]), often([LARGEST] * 5), likeliest(0), likeliest(LARGEST)]
        self.assertEqual(run(*calls), [[-61]] * len(calls))

    def test_all_in_one_line_ahead_of_a_begin(self):
        found = run(*EACH_CALL, begin(1, 1), all_told())
        self.assertEqual(found, [[-61]] * len(EACH_CALL) + [[0], [1, 1, 0]])

    def test_every_number_but_begin_is_tried(self):
        self.assertEqual([call[0] for call in EACH_CALL], list(range(1, 23)))

    def test_behind_a_begin_none_is(self):
        for call in EACH_CALL:
            self.assertNotIn([-61], run(begin(1, 1), call, call), call)

    def test_behind_a_refused_begin(self):
        for refused in (begin(0, 1), begin(1, 0), begin(6, 1), begin(1, 6), begin(LARGEST, LARGEST)):
            for call in EACH_CALL:
                self.assertEqual(run(refused, call), [[-22], [-61]], (refused, call))

    def test_a_begin_behind_a_refused_one(self):
        self.assertEqual(run(begin(0, 0), may(0, 0), begin(1, 1), may(0, 0)), [[-22], [-61], [0], [0]])


class NothingKeptTest(unittest.TestCase):
    LINE = flat(table_calls(PATH) + [
        set_often(0, 0, 9), set_often(9, 9, 9), row(1, [1, 2, 3]), row(1, [1]), forget(2), may(0, 0), mixed(0, 1),
        mixed_with(1), good([0, 1, 0, 0]), clash([0, 0, 0, 0]), clash([0, 1, 2, 3]), fewest(), best(), ways(2),
        crowd(), why(), apart(), told(0, 0, [0, 0, 1, 1]), sure(1), good_two(list(range(16))), greedy_two(),
        mixed_two(0, 0, 1, 1), often([0, 0, 1, 1]), likeliest(2), all_told()])

    def test_the_list_handed_in_stays_the_same(self):
        handed = list(self.LINE)
        answers(handed)
        self.assertEqual(handed, self.LINE)

    def test_the_list_handed_in_is_not_changed_for_a_while_either(self):
        class Watched(list):
            def refuse(self, *args, **keywords):
                raise AssertionError("the list handed in was changed")

            append = extend = insert = remove = pop = clear = sort = reverse = refuse
            __setitem__ = __delitem__ = __iadd__ = __imul__ = refuse

        self.assertEqual(answers(Watched(self.LINE)), answers(list(self.LINE)))

    def test_twice_the_same(self):
        first = answers(list(self.LINE))
        kept = list(first)
        second = answers(list(self.LINE))
        self.assertEqual(first, second)
        second.append(0)
        self.assertEqual(first, kept)

    def test_a_table_does_not_stay_for_the_next_time(self):
        self.assertEqual(answers([0, 2, 2]), [1, 0])
        self.assertEqual(answers([9]), [1, -61])

    def test_whole_numbers_alone_are_given_back(self):
        given = answers(list(self.LINE))
        self.assertIs(type(given), list)
        self.assertEqual({type(number) for number in given}, {int})

    def test_a_call_has_its_own_answer(self):
        self.assertEqual(len(split(answers(list(self.LINE)))), 5 + 25)

    def test_the_interface_is_there(self):
        self.assertTrue(callable(lettersent.letters.answers))
        self.assertEqual(lettersent.letters.answers(calls=[9]), [1, -61])


if __name__ == "__main__":
    unittest.main()
