import unittest

from tests.asking import BOUND, HIGHEST_NUMBER, MOST_CHARGE
from tests.asking import ask, begin, book, books_behind, check_wrong, pay, told, told_all


class Paid(unittest.TestCase):
    def test_both_positions_and_what_was_paid(self):
        self.assertEqual(books_behind(3, pay(0, 2, 5)), [[5, 0, 0, 5], [0, 0, 0, 0], [-5, 0, 0, -5]])

    def test_what_was_paid_less_what_it_was_paid(self):
        self.assertEqual(
            books_behind(3, pay(0, 2, 5), pay(2, 1, 3), pay(1, 0, 1)),
            [[4, 0, 0, 4], [-2, 0, 0, -2], [-2, 0, 0, -2]],
        )

    def test_beside_what_is_booked(self):
        self.assertEqual(
            books_behind(2, book(0, 10, [1, 1]), pay(0, 1, 10)),
            [[0, 10, 0, 10], [0, 0, 10, -10]],
        )

    def test_units_1_and_2_to_50(self):
        self.assertEqual(books_behind(2, pay(1, 0, 1)), [[-1, 0, 0, -1], [1, 0, 0, 1]])
        self.assertEqual(books_behind(2, pay(1, 0, BOUND)), [[-BOUND, 0, 0, -BOUND], [BOUND, 0, 0, BOUND]])

    def test_the_answer_is_0_alone(self):
        self.assertEqual(ask(begin(2), pay(0, 1, 1)), [[0], [0]])


class Refused(unittest.TestCase):
    def test_from_or_to_no_company(self):
        for companies in range(2, 7):
            for none in (companies, companies + 1, HIGHEST_NUMBER):
                check_wrong(self, companies, pay(none, 0, 1))
                check_wrong(self, companies, pay(0, none, 1))
                check_wrong(self, companies, pay(none, none, 1))
            self.assertEqual(ask(begin(companies), pay(companies - 1, 0, 1)), [[0], [0]])
            self.assertEqual(ask(begin(companies), pay(0, companies - 1, 1)), [[0], [0]])

    def test_both_one(self):
        for company in range(6):
            check_wrong(self, 6, pay(company, company, 1))

    def test_units(self):
        for units in (0, BOUND + 1, HIGHEST_NUMBER):
            check_wrong(self, 2, pay(0, 1, units))
            check_wrong(self, 2, pay(1, 0, units))

    def test_wrong_comes_before_too_far(self):
        for wrong in (pay(0, 1, BOUND + 1), pay(0, 0, BOUND), pay(0, 3, 1), pay(3, 1, 1), pay(0, 1, 0)):
            self.assertEqual(ask(begin(3), pay(0, 1, BOUND), wrong), [[0], [0], [-1]])


class TooFar(unittest.TestCase):
    """Each start brings one number of company 0 to the bound; all others have room."""

    def check(self, start, at_bound, too_far, still_paid):
        answered = ask(begin(6), *start, told(0))
        self.assertEqual(answered, [[0]] * (len(start) + 1) + [[0] + at_bound])
        before = books_behind(6, *start)
        answered = ask(begin(6), *start, too_far, *told_all(6))
        self.assertEqual(answered[len(start) + 1], [-5])
        self.assertEqual([answer[1:] for answer in answered[len(start) + 2:]], before)
        self.assertEqual(ask(begin(6), *start, still_paid)[-1], [0])

    def test_a_position_above(self):
        start = [book(3, 10, [0, 1]), pay(0, 1, BOUND // 2), pay(0, 2, BOUND // 2 - 10)]
        self.check(start, [BOUND, 0, 10, BOUND - 10], pay(0, 4, 1), pay(4, 0, 1))

    def test_a_position_below(self):
        start = [book(0, 10, [3, 1]), pay(1, 0, BOUND // 2), pay(2, 0, BOUND // 2 - 10)]
        self.check(start, [-BOUND, 10, 0, 10 - BOUND], pay(4, 0, 1), pay(0, 4, 1))

    def test_what_was_paid_above(self):
        start = [book(0, 10, [3, 1]), pay(0, 1, BOUND // 2), pay(0, 2, BOUND // 2)]
        self.check(start, [BOUND - 10, 10, 0, BOUND], pay(0, 4, 1), pay(4, 0, 1))

    def test_what_was_paid_below(self):
        start = [book(3, 10, [0, 1]), pay(1, 0, BOUND // 2), pay(2, 0, BOUND // 2)]
        self.check(start, [10 - BOUND, 0, 10, -BOUND], pay(4, 0, 1), pay(0, 4, 1))

    def test_by_far(self):
        self.assertEqual(ask(begin(2), pay(0, 1, BOUND), pay(0, 1, BOUND)), [[0], [0], [-5]])
        self.assertEqual(ask(begin(2), pay(0, 1, BOUND), pay(1, 0, BOUND), told(0)), [[0], [0], [0], [0] * 5])

    def test_back_over_0_to_the_other_bound(self):
        # From BOUND the other bound is two payments of BOUND away.
        answered = ask(begin(2), pay(0, 1, BOUND), pay(1, 0, BOUND), pay(1, 0, BOUND), pay(1, 0, 1), told(0))
        self.assertEqual(answered, [[0]] * 4 + [[-5], [0, -BOUND, 0, 0, -BOUND]])

    def test_one_side_too_far_leaves_both(self):
        start = [book(0, MOST_CHARGE, [1, 1]), pay(0, 1, BOUND)]
        self.assertEqual(books_behind(3, *start, pay(2, 1, 1)), books_behind(3, *start))
        self.assertEqual(books_behind(3, *start, pay(0, 2, 1)), books_behind(3, *start))


if __name__ == "__main__":
    unittest.main()
