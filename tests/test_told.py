import unittest

from tests.asking import HIGHEST_NUMBER, ask, begin, book, pay, told


class Told(unittest.TestCase):
    def test_the_four_numbers_in_order(self):
        answered = ask(begin(3), book(1, 100, [0, 1]), book(0, 30, [1, 1]), pay(1, 2, 7), told(1), told(0), told(2))
        self.assertEqual(answered[4:], [[0, -63, 100, 30, 7], [0, 70, 30, 100, 0], [0, -7, 0, 0, -7]])

    def test_no_such_company(self):
        for companies in range(2, 7):
            for company in (companies, companies + 1, HIGHEST_NUMBER):
                self.assertEqual(ask(begin(companies), told(company)), [[0], [-1]])

    def test_telling_changes_nothing(self):
        answered = ask(begin(2), pay(0, 1, 7), told(0), told(1), told(2), told(0), told(1))
        self.assertEqual(answered[2:], [[0, 7, 0, 0, 7], [0, -7, 0, 0, -7], [-1], [0, 7, 0, 0, 7], [0, -7, 0, 0, -7]])


if __name__ == "__main__":
    unittest.main()
