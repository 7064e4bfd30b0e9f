import random
import unittest

from tests.asking import BOUND, ask, begin, book, least, pays_to, settle, told_all
from tests.asking import searched, searched_groups, some_positions


def least_of(positions):
    return ask(begin(len(positions)), *pays_to(positions), least())[-1]


class Least(unittest.TestCase):
    def test_all_positions_0(self):
        for companies in range(2, 7):
            self.assertEqual(ask(begin(companies), least()), [[0], [0, 0, 0]])

    def test_one_group(self):
        self.assertEqual(least_of([5, -5]), [0, 1, 1])
        self.assertEqual(least_of([1, 1, -2]), [0, 2, 1])
        self.assertEqual(least_of([2, 2, 2, -3, -3]), [0, 4, 1])
        self.assertEqual(least_of([1, 2, 4, 8, 16, -31]), [0, 5, 1])

    def test_several_groups(self):
        self.assertEqual(least_of([1, 2, -1, -2]), [0, 2, 2])
        self.assertEqual(least_of([1, 1, -2, 5, 5, -10]), [0, 4, 2])
        self.assertEqual(least_of([5, 1, 2, -5, -3, 0]), [0, 3, 2])
        self.assertEqual(least_of([1, 2, 3, -3, -2, -1]), [0, 3, 3])
        self.assertEqual(least_of([1, 1, 1, -1, -1, -1]), [0, 3, 3])

    def test_larger_groups_come_to_0_too(self):
        # The first three and the last three make only two groups.
        self.assertEqual(least_of([2, 4, -6, 6, -2, -4]), [0, 3, 3])
        self.assertEqual(least_of([-1, -2, 3, 1, -3, 2]), [0, 3, 3])

    def test_two_ways_to_part(self):
        self.assertEqual(least_of([1, 2, 3, -3, -4, 1]), [0, 4, 2])
        self.assertEqual(least_of([4, 3, -7, 2, -4, 2]), [0, 4, 2])

    def test_companies_with_position_0_are_in_no_group(self):
        self.assertEqual(least_of([0, 3, 0, -3, 0, 0]), [0, 1, 1])

    def test_positions_2_to_50_from_0(self):
        self.assertEqual(least_of([BOUND, -BOUND]), [0, 1, 1])
        self.assertEqual(least_of([BOUND, BOUND, BOUND, -BOUND, -BOUND, -BOUND]), [0, 3, 3])
        self.assertEqual(least_of([BOUND, 1 - BOUND, -1, BOUND - 1, -BOUND, 1]), [0, 3, 3])

    def test_nothing_is_paid(self):
        first = [begin(3), book(0, 100, [1, 1, 2, 2])]
        answered = ask(*first, *told_all(3), least(), *told_all(3), least())
        self.assertEqual(answered[2:5], answered[6:9])
        self.assertEqual(answered[5], [0, 2, 1])
        self.assertEqual(answered[9], [0, 2, 1])

    def test_400_calls(self):
        ahead = [begin(6)] + pays_to([5, 7, 11, -3, -8, -12])
        calls = ahead + [least()] * (400 - len(ahead))
        self.assertEqual(ask(*calls), [[0]] * len(ahead) + [[0, 4, 2]] * (400 - len(ahead)))


class PromiseThree(unittest.TestCase):
    def check(self, positions):
        answered = ask(begin(len(positions)), *pays_to(positions), settle(), least())
        how_many = len(searched(positions))
        groups = searched_groups(positions)
        self.assertEqual(answered[-1], [0, how_many, groups], positions)
        self.assertEqual(answered[-2][1], 3 * how_many, positions)
        self.assertEqual(how_many, sum(1 for position in positions if position != 0) - groups, positions)

    def test_many_books(self):
        source = random.Random(8)
        for companies in range(2, 7):
            for most in (1, 2, 3, 6, 12, BOUND):
                for turn in range(60):
                    self.check(some_positions(source, companies, most))


if __name__ == "__main__":
    unittest.main()
