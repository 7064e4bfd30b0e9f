import random
import unittest
from fractions import Fraction

from tests.asking import MOST_CHARGE, WRONG_CHARGES, WRONG_ROWS, ask, share


def shares_of(charge, row):
    answer = ask(share(charge, row))[0]
    if answer[0] != 0 or answer[1] != len(answer) - 2:
        raise AssertionError(f"share {charge} {row} answered {answer}")
    return answer[2:]


def some_rows(seed, how_many):
    source = random.Random(seed)
    for turn in range(how_many):
        companies = source.sample(range(6), source.randint(1, 6))
        most = source.choice((1, 2, 3, 10, 100, 65535))
        row = []
        for company in companies:
            row.extend([company, source.randint(1, most)])
        yield source.choice((source.randint(0, 30), source.randint(0, MOST_CHARGE), MOST_CHARGE)), row


class Shared(unittest.TestCase):
    def test_shares_without_a_rest(self):
        self.assertEqual(ask(share(10, [0, 1, 1, 4])), [[0, 2, 2, 8]])

    def test_shares_stand_in_the_rows_order(self):
        self.assertEqual(ask(share(10, [5, 4, 2, 1])), [[0, 2, 8, 2]])

    def test_left_over_goes_to_the_greatest_rest(self):
        # Rests of 13: 9, 1, 3: one unit.
        self.assertEqual(shares_of(100, [0, 1, 1, 3, 2, 9]), [8, 23, 69])

    def test_two_left_over_go_to_the_two_greatest_rests(self):
        # Rests of 7: 3, 6, 5.
        self.assertEqual(shares_of(10, [0, 1, 1, 2, 2, 4]), [1, 3, 6])
        # Rests of 11: 5, 8, 9.
        self.assertEqual(shares_of(5, [0, 1, 1, 6, 2, 4]), [0, 3, 2])

    def test_of_equal_rests_the_first_in_the_row(self):
        self.assertEqual(shares_of(1, [0, 1, 1, 1]), [1, 0])
        self.assertEqual(shares_of(1, [1, 1, 0, 1]), [1, 0])
        self.assertEqual(shares_of(5, [3, 7, 2, 7, 1, 7]), [2, 2, 1])
        self.assertEqual(shares_of(4, [5, 1, 4, 1, 3, 1, 2, 1, 1, 1, 0, 1]), [1, 1, 1, 1, 0, 0])

    def test_a_greater_rest_comes_ahead_of_equal_ones_before_it(self):
        # Rests of 4: 1, 1, 2.
        self.assertEqual(shares_of(1, [0, 1, 1, 1, 2, 2]), [0, 0, 1])

    def test_charge_0(self):
        self.assertEqual(ask(share(0, [0, 1, 3, 65535])), [[0, 2, 0, 0]])

    def test_the_greatest_charge(self):
        self.assertEqual(shares_of(MOST_CHARGE, [0, 1, 1, 1]), [2 ** 39, 2 ** 39])
        self.assertEqual(shares_of(MOST_CHARGE, [0, 1, 1, 1, 2, 1]), [366503875926, 366503875925, 366503875925])

    def test_one_company_gets_all(self):
        for company in range(6):
            self.assertEqual(ask(share(77, [company, 65535])), [[0, 1, 77]])

    def test_six_companies(self):
        row = [0, 1, 1, 2, 2, 3, 3, 4, 4, 5, 5, 6]
        self.assertEqual(ask(share(21, row)), [[0, 6, 1, 2, 3, 4, 5, 6]])

    def test_weights_1_and_65535(self):
        self.assertEqual(shares_of(65536, [0, 1, 1, 65535]), [1, 65535])
        self.assertEqual(shares_of(1, [0, 1, 1, 65535]), [0, 1])

    def test_share_needs_no_books(self):
        self.assertEqual(ask(share(3, [5, 1]), share(3, [6, 1])), [[0, 1, 3], [-1]])


class PromiseOne(unittest.TestCase):
    def check(self, charge, row):
        weights = row[1::2]
        shares = shares_of(charge, row)
        self.assertEqual(len(shares), len(weights))
        self.assertEqual(sum(shares), charge)
        due = [Fraction(charge * weight, sum(weights)) for weight in weights]
        for got, should in zip(shares, due):
            self.assertLess(abs(got - should), 1)
        for k in range(len(weights)):
            for j in range(len(weights)):
                if weights[k] > weights[j]:
                    self.assertGreaterEqual(shares[k], shares[j])
        self.check_who_got_a_unit(shares, due)

    def check_who_got_a_unit(self, shares, due):
        turn = sorted(range(len(due)), key=lambda k: (-(due[k] - due[k] // 1), k))
        extra = [shares[k] - due[k] // 1 for k in turn]
        self.assertEqual(extra, sorted(extra, reverse=True))
        self.assertLessEqual(set(extra), {0, 1})

    def test_small_rows_all(self):
        for charge in range(13):
            for first in range(1, 6):
                for second in range(1, 6):
                    self.check(charge, [0, first, 1, second])
                    for third in range(1, 6):
                        self.check(charge, [2, first, 0, second, 1, third])

    def test_many_rows(self):
        for charge, row in some_rows(1, 3000):
            self.check(charge, row)


class Refused(unittest.TestCase):
    def test_charge_above_2_to_40(self):
        for charge in WRONG_CHARGES:
            self.assertEqual(ask(share(charge, [0, 1])), [[-1]])

    def test_wrong_rows(self):
        for name, row in WRONG_ROWS.items():
            with self.subTest(name):
                self.assertEqual(ask(share(10, row)), [[-1]])

    def test_company_5_is_none_too_many(self):
        self.assertEqual(ask(share(10, [5, 1])), [[0, 1, 10]])


if __name__ == "__main__":
    unittest.main()
