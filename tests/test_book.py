import unittest

from evenwires.books import Books
from tests.asking import BOUND, HIGHEST_NUMBER, MOST_CHARGE, WRONG_CHARGES, WRONG_ROWS
from tests.asking import ask, begin, book, books_behind, check_wrong, pay, told_all

HALF = BOUND // 2


class Booked(unittest.TestCase):
    def test_the_collecting_company_not_in_the_row(self):
        self.assertEqual(
            books_behind(3, book(0, 10, [1, 1, 2, 4])),
            [[-10, 10, 0, 0], [2, 0, 2, 0], [8, 0, 8, 0]],
        )

    def test_the_collecting_company_in_the_row(self):
        self.assertEqual(
            books_behind(3, book(2, 10, [1, 1, 2, 4])),
            [[0, 0, 0, 0], [2, 0, 2, 0], [-2, 10, 8, 0]],
        )

    def test_the_collecting_company_alone_in_the_row(self):
        self.assertEqual(books_behind(2, book(1, 10, [1, 3])), [[0, 0, 0, 0], [0, 10, 10, 0]])

    def test_several_charges_are_added_up(self):
        self.assertEqual(
            books_behind(3, book(0, 10, [1, 1, 2, 4]), book(1, 7, [0, 1, 1, 1]), book(0, 1, [2, 1])),
            [[-7, 11, 4, 0], [-2, 7, 5, 0], [9, 0, 9, 0]],
        )

    def test_left_over_goes_as_share_tells(self):
        self.assertEqual(
            books_behind(4, book(3, 5, [2, 1, 0, 1, 1, 1])),
            [[2, 0, 2, 0], [1, 0, 1, 0], [2, 0, 2, 0], [-5, 5, 0, 0]],
        )

    def test_charge_0_and_the_greatest(self):
        self.assertEqual(books_behind(2, book(0, 0, [1, 1])), [[0, 0, 0, 0], [0, 0, 0, 0]])
        self.assertEqual(
            books_behind(2, book(0, MOST_CHARGE, [1, 1])),
            [[-MOST_CHARGE, MOST_CHARGE, 0, 0], [MOST_CHARGE, 0, MOST_CHARGE, 0]],
        )

    def test_the_answer_is_0_alone(self):
        self.assertEqual(ask(begin(2), book(0, 10, [1, 1])), [[0], [0]])


class Refused(unittest.TestCase):
    def test_as_share(self):
        for charge in WRONG_CHARGES:
            check_wrong(self, 6, book(0, charge, [0, 1]))
        for name, row in WRONG_ROWS.items():
            with self.subTest(name):
                check_wrong(self, 6, book(0, 10, row))

    def test_a_company_of_the_row_that_there_is_not(self):
        for companies in range(2, 6):
            for company in range(companies, 6):
                check_wrong(self, companies, book(0, 10, [company, 1]))
                check_wrong(self, companies, book(0, 10, [0, 1, company, 1]))
            self.assertEqual(ask(begin(companies), book(0, 10, [companies - 1, 1])), [[0], [0]])

    def test_by_that_there_is_not(self):
        for companies in range(2, 7):
            for by in (companies, companies + 1, HIGHEST_NUMBER):
                check_wrong(self, companies, book(by, 10, [0, 1]))
            self.assertEqual(ask(begin(companies), book(companies - 1, 10, [0, 1])), [[0], [0]])

    def test_charge_0_is_refused_like_any(self):
        check_wrong(self, 2, book(2, 0, [0, 1]))
        check_wrong(self, 2, book(0, 0, [2, 1]))


class PositionTooFar(unittest.TestCase):
    def check(self, start, reached, one_more):
        """reached brings a position to the bound, which one_more would bring a unit too far."""
        before = books_behind(6, *start, reached)
        answered = ask(begin(6), *start, reached, one_more, *told_all(6))
        self.assertEqual(answered[:len(start) + 2], [[0]] * (len(start) + 2))
        self.assertEqual(answered[len(start) + 2], [-5])
        self.assertEqual([answer[1:] for answer in answered[len(start) + 3:]], before)
        self.assertIn(BOUND, [abs(numbers[0]) for numbers in before])

    def test_above(self):
        self.check([pay(0, 1, BOUND - 1)], book(2, 1, [0, 1]), book(2, 1, [0, 1]))

    def test_above_by_a_share(self):
        self.check([pay(0, 1, BOUND - 5)], book(2, 10, [0, 1, 3, 1]), book(2, 2, [3, 1, 0, 1]))

    def test_below(self):
        self.check([pay(0, 1, BOUND - 1)], book(1, 1, [2, 1]), book(1, 1, [2, 1]))

    def test_the_greatest_charge(self):
        self.check([pay(0, 1, BOUND - MOST_CHARGE)], book(1, MOST_CHARGE, [2, 1]), book(1, 1, [2, 1]))
        self.check([pay(0, 1, BOUND - MOST_CHARGE)], book(2, MOST_CHARGE, [0, 1]), book(2, 1, [0, 1]))

    def test_charge_0_goes_no_farther(self):
        self.assertEqual(ask(begin(2), pay(0, 1, BOUND), book(1, 0, [0, 1])), [[0], [0], [0]])

    def test_who_collects_its_own_share_stays(self):
        answered = ask(begin(2), pay(0, 1, BOUND), book(0, MOST_CHARGE, [0, 1]), book(1, MOST_CHARGE, [1, 1]))
        self.assertEqual(answered, [[0]] * 4)

    def test_toward_0_is_booked(self):
        self.assertEqual(ask(begin(2), pay(0, 1, BOUND), book(0, 9, [1, 1])), [[0]] * 3)

    def test_wrong_comes_before_too_far(self):
        for wrong in (
            book(1, 1, [0, 1, 3, 1]),
            book(1, MOST_CHARGE + 1, [0, 1]),
            book(1, 1, [0, 1, 0, 1]),
            book(1, 1, [0, 65536]),
            book(3, 1, [0, 1]),
        ):
            self.assertEqual(ask(begin(3), pay(0, 1, BOUND), wrong), [[0], [0], [-1]])
        self.assertEqual(ask(begin(3), pay(0, 1, BOUND), book(1, 1, [0, 1])), [[0], [0], [-5]])


class CollectedOrGotTooFar(unittest.TestCase):
    """400 charges come to less than 2^50, so the books are asked here without the desk."""

    def books_of_6(self):
        books = Books()
        self.assertEqual(books.begin(6), [0])
        return books

    def book_often(self, books, by, company, all_units):
        for turn in range(all_units // MOST_CHARGE):
            self.assertEqual(books.book(by, MOST_CHARGE, [company, 1]), [0])

    def check_refused(self, books, by, row):
        before = [books.told(company) for company in range(6)]
        self.assertEqual(books.book(by, 1, row), [-5])
        self.assertEqual([books.told(company) for company in range(6)], before)

    def test_collected(self):
        books = self.books_of_6()
        self.assertEqual(books.pay(0, 1, HALF), [0])
        self.book_often(books, 0, 1, HALF)
        self.book_often(books, 0, 2, HALF - MOST_CHARGE)
        self.assertEqual(books.book(0, MOST_CHARGE - 1, [2, 1]), [0])
        self.assertEqual(books.book(0, 1, [3, 1]), [0])
        self.assertEqual(books.told(0), [0, -HALF, BOUND, 0, HALF])
        self.check_refused(books, 0, [3, 1])
        self.check_refused(books, 0, [0, 1])
        self.assertEqual(books.book(0, 0, [3, 1]), [0])
        self.assertEqual(books.book(3, 1, [0, 1]), [0])

    def test_got(self):
        books = self.books_of_6()
        self.assertEqual(books.pay(1, 0, HALF), [0])
        self.book_often(books, 1, 0, HALF)
        self.book_often(books, 2, 0, HALF - MOST_CHARGE)
        self.assertEqual(books.book(2, MOST_CHARGE - 1, [0, 1]), [0])
        self.assertEqual(books.book(3, 1, [0, 1]), [0])
        self.assertEqual(books.told(0), [0, HALF, 0, BOUND, -HALF])
        self.check_refused(books, 3, [0, 1])
        self.check_refused(books, 0, [0, 1])
        self.check_refused(books, 3, [4, 1, 0, 2])
        self.assertEqual(books.book(3, 0, [0, 1]), [0])
        self.assertEqual(books.book(0, 1, [3, 1]), [0])

    def test_wrong_comes_before_too_far(self):
        books = self.books_of_6()
        self.book_often(books, 0, 0, BOUND)
        self.assertEqual(books.told(0), [0, 0, BOUND, BOUND, 0])
        self.assertEqual(books.book(0, 1, [0, 1, 6, 1]), [-1])
        self.check_refused(books, 0, [0, 1])


if __name__ == "__main__":
    unittest.main()
