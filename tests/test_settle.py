import random
import unittest
from itertools import product

from tests.asking import BOUND, ask, begin, book, joined, pay, payments_told, pays_to
from tests.asking import searched, searched_plainly, settle, some_positions, told_all


def all_positions(companies, most):
    for ahead in product(range(-most, most + 1), repeat=companies - 1):
        if abs(sum(ahead)) <= most:
            yield list(ahead) + [-sum(ahead)]


class Settle(unittest.TestCase):
    def check(self, positions, payments):
        self.assertEqual(payments_told(positions), payments, positions)

    def test_the_answer_number_by_number(self):
        answered = ask(begin(3), book(0, 5, [1, 2, 2, 3]), settle())
        self.assertEqual(answered[-1], [0, 6, 0, 1, 2, 0, 2, 3])

    def test_who_is_below_0_pays_who_is_above(self):
        self.check([5, -5], [(1, 0, 5)])
        self.check([-5, 5], [(0, 1, 5)])

    def test_all_positions_0(self):
        for companies in range(2, 7):
            self.assertEqual(ask(begin(companies), settle()), [[0], [0, 0]])
        self.assertEqual(ask(begin(2), book(0, 5, [0, 1]), pay(0, 1, 3), pay(1, 0, 3), settle())[-1], [0, 0])

    def test_companies_with_position_0_take_no_part(self):
        self.check([0, 4, 0, -4, 0], [(3, 1, 4)])
        self.check([0, 2, -1, 0, -1], [(2, 1, 1), (4, 1, 1)])
        self.check([1, 0, 1, 0, -2, 0], [(4, 0, 1), (4, 2, 1)])

    def test_several_groups(self):
        self.check([1, 2, 3, -1, -2, -3], [(3, 0, 1), (4, 1, 2), (5, 2, 3)])
        self.check([-3, 1, 2, 7, -3, -4], [(0, 1, 1), (0, 2, 2), (4, 3, 3), (5, 3, 4)])

    def test_fewer_payments_come_ahead_of_the_lesser_from_and_to(self):
        # Beginning with 3 to 0 there would be four payments.
        self.check([2, 3, 4, -3, -6], [(3, 1, 3), (4, 0, 2), (4, 2, 4)])

    def test_the_lesser_sum_comes_ahead_of_the_lesser_from_and_to(self):
        # As many payments and ahead of it, but through company 0: 0 to 1, 2 to 0.
        self.check([1, 1, -2], [(2, 0, 1), (2, 1, 1)])

    def test_the_lesser_from_first(self):
        # The payers are 0 and 2, and 0 comes first, whichever group is settled by that.
        self.check([-1, 1, -1, 1], [(0, 1, 1), (2, 3, 1)])

    def test_the_lesser_to_first(self):
        self.check([2, 2, -2, -2], [(2, 0, 2), (3, 1, 2)])
        self.check([1, 1, 1, -1, -1, -1], [(3, 0, 1), (4, 1, 1), (5, 2, 1)])
        self.check([5, 5, -4, -3, -3], [(2, 0, 2), (2, 1, 2), (3, 0, 3), (4, 1, 3)])

    def test_the_lesser_sum_of_the_first_payment_that_differs(self):
        # From 3 to 0 can go 2 as well, and 4 would pay 1 and 2 then.
        self.check([2, 2, 2, -3, -3], [(3, 0, 1), (3, 1, 2), (4, 0, 1), (4, 2, 2)])
        self.check([6, 5, -7, -4], [(2, 0, 2), (2, 1, 5), (3, 0, 4)])

    def test_positions_2_to_50_from_0(self):
        self.check([BOUND, -BOUND], [(1, 0, BOUND)])
        self.check([-BOUND, BOUND], [(0, 1, BOUND)])
        self.check([BOUND, 1 - BOUND, -1], [(1, 0, BOUND - 1), (2, 0, 1)])
        self.check([BOUND, -BOUND, -BOUND, BOUND, BOUND, -BOUND], [(1, 0, BOUND), (2, 3, BOUND), (5, 4, BOUND)])
        self.check(
            [BOUND, BOUND, 2 - BOUND, -BOUND, -1, -1],
            [(2, 0, BOUND - 2), (3, 1, BOUND), (4, 0, 1), (5, 0, 1)],
        )
        self.check(
            [BOUND, BOUND, -1 - BOUND // 2, -1 - BOUND // 2, 2 - BOUND],
            [(2, 0, 2), (2, 1, BOUND // 2 - 1), (3, 1, BOUND // 2 + 1), (4, 0, BOUND - 2)],
        )

    def test_nothing_is_paid(self):
        first = [begin(4), book(0, 100, [1, 1, 2, 2, 3, 4]), pay(3, 2, 9)]
        answered = ask(*first, *told_all(4), settle(), *told_all(4), settle())
        self.assertEqual(answered[3:7], answered[8:12])
        self.assertEqual(answered[7], answered[12])

    def test_400_calls_most_of_them_settle(self):
        for positions in ([5, 7, 11, -3, -8, -12], [1, 2, 3, 4, 5, -15], [1, 2, 4, 8, -6, -9], [3, 3, 3, -3, -3, -3]):
            ahead = [begin(6)] + pays_to(positions)
            calls = ahead + [settle()] * (400 - len(ahead))
            payments = searched(positions)
            told = [0, 3 * len(payments)] + joined(payments)
            self.assertEqual(ask(*calls), [[0]] * len(ahead) + [told] * (400 - len(ahead)))


class BesideTheSearch(unittest.TestCase):
    def check(self, positions):
        """What a settlement is, asked ahead of which one is told."""
        payments = payments_told(positions)
        left = list(positions)
        for start, to, units in payments:
            self.assertNotEqual(start, to)
            self.assertGreaterEqual(units, 1)
            left[start] += units
            left[to] -= units
        self.assertEqual(left, [0] * len(positions), positions)
        pairs = [(start, to) for start, to, units in payments]
        self.assertEqual(pairs, sorted(set(pairs)), positions)
        self.assertEqual(payments, searched(positions), positions)

    def test_the_search_beside_a_plainer_one(self):
        for companies, most in ((2, 4), (3, 3), (4, 3)):
            for positions in all_positions(companies, most):
                self.assertEqual(searched(positions), searched_plainly(positions), positions)
        for positions in ([1, 1, 1, -3, 0], [1, 1, 1, 1, -4], [2, 2, -1, -3, 0, 0], [0, 1, -2, 0, 2, -1]):
            self.assertEqual(searched(positions), searched_plainly(positions), positions)

    def test_2_to_5_companies_all_positions_close_to_0(self):
        for companies, most in ((2, 20), (3, 7), (4, 4), (5, 2)):
            for positions in all_positions(companies, most):
                self.check(positions)

    def test_many_books(self):
        source = random.Random(5)
        for companies in range(2, 7):
            for most in (2, 4, 9, 30, BOUND):
                for turn in range(150):
                    self.check(some_positions(source, companies, most))

    def test_many_books_of_6_companies_in_several_groups(self):
        source = random.Random(6)
        for turn in range(300):
            most = source.choice((2, 5, 20))
            positions = some_positions(source, 2, most) + some_positions(source, 4, most)
            if turn % 2 == 0:
                positions = some_positions(source, 3, most) + some_positions(source, 3, most)
            source.shuffle(positions)
            self.check(positions)

    def test_settled_all_are_0(self):
        source = random.Random(7)
        for turn in range(100):
            companies = source.randint(2, 6)
            ahead = [begin(companies)] + pays_to(some_positions(source, companies, source.choice((3, 30, BOUND // 8))))
            ahead.append(book(0, source.randint(0, 999), [0, 1, companies - 1, 5]))
            told = ask(*ahead, settle())[-1]
            pays = [pay(*told[at:at + 3]) for at in range(2, len(told), 3)]
            answered = ask(*ahead, *pays, *told_all(companies), settle())
            self.assertEqual(answered[:len(ahead) + len(pays)], [[0]] * (len(ahead) + len(pays)))
            self.assertEqual([answer[1] for answer in answered[len(ahead) + len(pays):-1]], [0] * companies)
            self.assertEqual(answered[-1], [0, 0])


if __name__ == "__main__":
    unittest.main()
