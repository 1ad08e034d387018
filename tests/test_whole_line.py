"""Calls of all numbers mixed on one line, against a second telling of the document's words."""

import functools
import itertools
import unittest

from helper import (LARGEST, Mixer, NOT_BEGUN, NO_SUCH, ONE_ALONE, THEY_DO, WRONG, all_rows, begin, never_mistaken,
                    never_mistaken_of_two, numbered_as_they_come, run, split, twos_of)
from lettersent.letters import answers


@functools.lru_cache(maxsize=None)
def numbered(x_count):
    return [letters for letters in all_rows(x_count) if numbered_as_they_come(letters)]


class Words:
    """The document's words over again, call by call, by going through all there is."""

    def __init__(self):
        self.rows = None

    def answer(self, call):
        number, *rest = call
        if number == 0:
            return self.begin(*rest)
        if self.rows is None:
            return [NOT_BEGUN]
        self.x_count, self.y_count = len(self.rows), len(self.rows[0])
        name = ("set row forget may mixed mixed_with good clash fewest best ways crowd why apart told sure good_two "
                "greedy_two mixed_two often likeliest all_told").split()[number - 1]
        return getattr(self, "at_" + name)(*rest)

    def begin(self, x_count, y_count):
        if x_count not in range(1, 6) or y_count not in range(1, 6):
            return [WRONG]
        self.rows = [[0] * y_count for x in range(x_count)]
        return [0]

    def no_x(self, *xs):
        return any(x >= self.x_count for x in xs)

    def wrong(self, letters, count):
        return len(letters) != count or any(letter >= count for letter in letters)

    def shared(self, x, z):
        return [y for y in range(self.y_count) if self.rows[x][y] and self.rows[z][y]]

    def is_mixed(self, x, z):
        return x != z and bool(self.shared(x, z))

    def xs_of(self, y):
        return [x for x in range(self.x_count) if self.rows[x][y]]

    def doing(self):
        return [letters for letters in numbered(self.x_count) if never_mistaken(self.rows, letters)]

    def right(self, letters):
        heard = {}
        for x, y in itertools.product(range(self.x_count), range(self.y_count)):
            heard.setdefault((letters[x], y), []).append(self.rows[x][y])
        return sum(max(often) for often in heard.values())

    def at_set(self, x, y, w):
        if self.no_x(x) or y >= self.y_count:
            return [NO_SUCH]
        if w > 9:
            return [WRONG]
        was, self.rows[x][y] = self.rows[x][y], w
        return [was]

    def at_row(self, x, count, *how_often):
        if self.no_x(x):
            return [NO_SUCH]
        if count != self.y_count or max(how_often) > 9:
            return [WRONG]
        self.rows[x] = list(how_often)
        return [0]

    def at_forget(self, y):
        if y >= self.y_count:
            return [NO_SUCH]
        if self.y_count == 1:
            return [ONE_ALONE]
        for line in self.rows:
            line.pop(y)
        return [self.y_count - 1]

    def at_may(self, x, y):
        if self.no_x(x) or y >= self.y_count:
            return [NO_SUCH]
        return [min(1, self.rows[x][y])]

    def at_mixed(self, x, z):
        return [NO_SUCH] if self.no_x(x, z) else [int(self.is_mixed(x, z))]

    def at_mixed_with(self, x):
        if self.no_x(x):
            return [NO_SUCH]
        found = [z for z in range(self.x_count) if self.is_mixed(x, z)]
        return [len(found)] + found

    def at_good(self, count, *letters):
        return [WRONG] if self.wrong(letters, self.x_count) else [int(never_mistaken(self.rows, letters))]

    def at_clash(self, count, *letters):
        if self.wrong(letters, self.x_count):
            return [WRONG]
        for x, z in itertools.combinations(range(self.x_count), 2):
            if letters[x] == letters[z] and self.shared(x, z):
                return [x, z, min(self.shared(x, z))]
        return [THEY_DO]

    def at_fewest(self):
        return self.at_best()[:1]

    def at_best(self):
        count, letters = min((len(set(letters)), letters) for letters in self.doing())
        return [count] + letters

    def at_ways(self, k):
        return [sum(len(set(letters)) == k for letters in self.doing())]

    def at_crowd(self):
        count, y = max((len(self.xs_of(y)), -y) for y in range(self.y_count))
        return [count, -y]

    def greatest(self, wanted):
        found = []
        for number in range(1, 2 ** self.x_count):
            group = [x for x in range(self.x_count) if number >> x & 1]
            if all(self.is_mixed(x, z) == wanted for x, z in itertools.combinations(group, 2)):
                found.append((-len(group), number, group))
        group = min(found)[2]
        return [len(group)] + group

    def at_why(self):
        return self.greatest(True)

    def at_apart(self):
        return self.greatest(False)

    def at_told(self, c, y, count, *letters):
        if self.wrong(letters, self.x_count):
            return [WRONG]
        if y >= self.y_count:
            return [NO_SUCH]
        found = [x for x in self.xs_of(y) if letters[x] == c]
        return [len(found)] + found

    def at_sure(self, y):
        return [NO_SUCH] if y >= self.y_count else [len(self.xs_of(y))] + self.xs_of(y)

    def at_good_two(self, count, *letters):
        if self.wrong(letters, self.x_count ** 2):
            return [WRONG]
        return [int(never_mistaken_of_two(self.rows, letters))]

    def is_mixed_two(self, two, other):
        return two != other and all(self.shared(x, z) for x, z in zip(two, other))

    def at_greedy_two(self):
        given = {}
        for two in twos_of(self.rows):
            taken = [letter for other, letter in given.items() if self.is_mixed_two(two, other)]
            given[two] = min(set(range(25)) - set(taken))
        letters = list(given.values())
        return [len(set(letters))] + letters

    def at_mixed_two(self, x, z, u, v):
        return [NO_SUCH] if self.no_x(x, z, u, v) else [int(self.is_mixed_two((x, z), (u, v)))]

    def at_often(self, count, *letters):
        if self.wrong(letters, self.x_count):
            return [WRONG]
        return [self.right(letters), sum(sum(line) for line in self.rows)]

    def at_likeliest(self, k):
        if k not in range(1, self.x_count + 1):
            return [WRONG]
        few = [letters for letters in numbered(self.x_count) if len(set(letters)) <= k]
        missed, letters = min((-self.right(letters), letters) for letters in few)
        return [-missed] + letters

    def at_all_told(self):
        return [self.x_count, self.y_count] + [w for line in self.rows for w in line]


class Thrown:
    """Calls of all numbers whose own numbers are mostly, but not always, as they must be."""

    def __init__(self, seed):
        self.mixer = Mixer(seed)
        self.size = (1, 1)

    def number(self, count):
        """Mostly below count; sometimes just count, or far above."""
        choice = self.mixer.below(20)
        if choice == 0:
            return count
        if choice == 1:
            return self.mixer.one_of([count + 1, 6, 25, LARGEST])
        return self.mixer.below(count)

    def row(self, count, below, most):
        """Mostly as many numbers as count, below the one told; never more than most of them."""
        if self.mixer.below(8) == 0:
            count = self.mixer.below(most + 1)
        if self.mixer.below(8) == 0:
            return [count] + [self.number(below) for each in range(count)]
        few = 1 + self.mixer.below(below)
        return [count] + [self.mixer.below(few) for each in range(count)]

    def begin(self):
        if self.mixer.below(4) == 0:
            return begin(self.mixer.one_of([0, 6, LARGEST]), self.mixer.below(7))
        self.size = (1 + self.mixer.below(5), 1 + self.mixer.below(5))
        return begin(*self.size)

    def call(self, number):
        x, y = self.size
        letters = [x, x, 5]
        if number == 0:
            return self.begin()
        if number == 3 and y > 1:
            self.size = (x, y - self.mixer.below(2))
        wholes = {1: [x, y, 10], 2: [x], 3: [y], 4: [x, y], 5: [x, x], 6: [x], 11: [x + 1], 15: [x, y], 16: [y],
                  19: [x] * 4, 21: [x + 1]}.get(number, [])
        rows = {2: [y, 10, 5], 7: letters, 8: letters, 15: letters, 17: [x * x, x * x, 25], 20: letters}
        behind = self.row(*rows[number]) if number in rows else []
        return [number] + [self.number(count) for count in wholes] + behind

    def line(self, count):
        """A table of some numbers mostly comes first; behind it all calls are as likely, but begin and forget less."""
        start = [self.begin()] if self.mixer.below(10) else []
        start += [self.call(2) for each in range(self.mixer.below(8))]
        numbers = list(range(1, 23)) * 4 + [1, 2, 2, 2] * 4 + [0, 0]
        return start + [self.call(self.mixer.one_of(numbers)) for each in range(count - len(start))]


class WholeLineTest(unittest.TestCase):
    LINES = [Thrown(seed).line(60) for seed in range(400)]

    def test_against_the_words_over_again(self):
        for calls in self.LINES:
            words = Words()
            for call, found in zip(calls, run(*calls)):
                self.assertEqual(found, words.answer(call), (calls, call))

    def test_every_call_comes_with_every_refusal_it_has(self):
        found = {}
        for calls in self.LINES:
            for call, answer in zip(calls, run(*calls)):
                found.setdefault(call[0], set()).add(min(answer[0], 0))
        none, no_such, wrong = {0, NOT_BEGUN}, {0, NO_SUCH, NOT_BEGUN}, {0, WRONG, NOT_BEGUN}
        both = no_such | wrong
        expected = {number: none for number in (9, 10, 11, 12, 13, 14, 18, 22)}
        expected.update({number: no_such for number in (4, 5, 6, 16, 19)})
        expected.update({number: wrong for number in (7, 17, 20, 21)})
        expected.update({0: {0, WRONG}, 1: both, 2: both, 3: no_such | {ONE_ALONE}, 8: wrong | {THEY_DO}, 15: both})
        self.assertEqual(found, expected)

    def test_every_line_has_sixty_calls_and_its_answers(self):
        for calls in self.LINES:
            given = answers([number for call in calls for number in call])
            self.assertEqual(len(split(given)), 60)
            self.assertEqual({type(number) for number in given}, {int})

    def test_the_list_is_the_same_afterwards_and_so_are_the_answers(self):
        for calls in self.LINES[:100]:
            handed = [number for call in calls for number in call]
            kept = list(handed)
            first = answers(handed)
            self.assertEqual(handed, kept)
            self.assertEqual(answers(handed), first)
            self.assertEqual(handed, kept)

    def test_a_refusal_is_alone_and_no_other_number_is_below_0(self):
        for calls in self.LINES:
            for answer in run(*calls):
                self.assertTrue(len(answer) == 1 or min(answer) >= 0, answer)

    def test_every_call_behind_every_other(self):
        thrown = Thrown(1000)
        for ahead, behind in itertools.product(range(23), repeat=2):
            start = [thrown.begin(), thrown.call(2), thrown.call(2), thrown.call(2)]
            calls = start + [thrown.call(ahead), thrown.call(behind), [22]]
            words = Words()
            self.assertEqual(run(*calls), [words.answer(call) for call in calls], calls)


class OneLineByHandTest(unittest.TestCase):
    """Every number on one line of sixty calls, the answers told from the document."""

    LINE = [
        ([22], [-61]), ([12], [-61]), ([0, 6, 1], [-22]), ([18], [-61]),
        ([0, 3, 3], [0]), ([22], [3, 3] + [0] * 9), ([2, 0, 3, 4, 0, 1], [0]), ([2, 1, 3, 2, 3, 0], [0]),
        ([1, 2, 1, 5], [0]), ([2, 2, 3, 0, 6, 10], [-22]), ([2, 3, 0], [-2]), ([22], [3, 3, 4, 0, 1, 2, 3, 0, 0, 5, 0]),
        ([4, 2, 1], [1]), ([5, 0, 2], [0]), ([6, 1], [2, 0, 2]), ([7, 3, 0, 1, 0], [1]),
        ([8, 3, 0, 1, 1], [1, 2, 1]), ([8, 3, 0, 1, 0], [-33]), ([9], [2]), ([10], [2, 0, 1, 0]),
        ([11, 2], [1]), ([11, 3], [1]), ([12], [2, 0]), ([13], [2, 0, 1]),
        ([14], [2, 0, 2]), ([15, 0, 0, 3, 0, 0, 1], [2, 0, 1]), ([15, 7, 0, 3, 0, 0, 1], [0]),
        ([15, 0, 3, 3, 0, 0, 1], [-2]), ([15, 0, 3, 3, 0, 0, 3], [-22]), ([16, 1], [2, 1, 2]), ([16, 3], [-2]),
        ([17, 9, 0, 1, 0, 2, 3, 2, 0, 1, 0], [1]), ([17, 9, 0, 1, 0, 2, 3, 2, 0, 1, 2], [0]), ([17, 3, 0, 1, 0], [-22]),
        ([18], [4, 0, 1, 0, 2, 3, 2, 0, 1, 0]), ([19, 0, 2, 1, 1], [1]), ([19, 0, 1, 2, 1], [0]),
        ([19, 0, 0, 0, 3], [-2]), ([20, 3, 0, 0, 0], [10, 15]), ([20, 3, 0, 1, 0], [15, 15]), ([20, 3, 0, 3, 0], [-22]),
        ([21, 1], [10, 0, 0, 0]), ([21, 2], [15, 0, 1, 0]), ([21, 4], [-22]), ([22], [3, 3, 4, 0, 1, 2, 3, 0, 0, 5, 0]),
        ([3, 1], [2]), ([22], [3, 2, 4, 1, 2, 0, 0, 0]), ([14], [2, 0, 2]), ([19, 2, 0, 2, 1], [0]),
        ([18], [4, 0, 1, 0, 2, 3, 0, 0, 0, 0]), ([12], [2, 0]), ([3, 0], [1]), ([3, 0], [-6]),
        ([13], [1, 0]), ([21, 3], [1, 0, 0, 0]), ([0, 0, 2], [-22]), ([22], [3, 1, 1, 0, 0]),
        ([0, 1, 2], [0]), ([18], [1, 0]), ([22], [1, 2, 0, 0]),
    ]

    def test_the_whole_list(self):
        handed = [number for call, answer in self.LINE for number in call]
        expected = [number for call, answer in self.LINE for number in [len(answer)] + answer]
        self.assertEqual(answers(handed), expected)

    def test_it_has_sixty_calls_of_all_numbers(self):
        self.assertEqual(len(self.LINE), 60)
        self.assertEqual({call[0] for call, answer in self.LINE}, set(range(23)))

    def test_the_words_over_again_say_so_too(self):
        words = Words()
        for call, answer in self.LINE:
            self.assertEqual(words.answer(call), answer, call)


if __name__ == "__main__":
    unittest.main()
