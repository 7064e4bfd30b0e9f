import unittest

from tests.asking import HIGHEST_NUMBER, MOST_CHARGE, ask, begin, book, least, load, pay, save, settle, share
from tests.asking import told, told_all, written

NOTHING = [0, 0, 0, 0, 0]


class Begin(unittest.TestCase):
    def test_2_to_6_companies(self):
        for companies in range(2, 7):
            answered = ask(begin(companies), *told_all(companies), told(companies))
            self.assertEqual(answered, [[0]] + [NOTHING] * companies + [[-1]])

    def test_refused(self):
        for companies in (0, 1, 7, 8, 256, HIGHEST_NUMBER):
            self.assertEqual(ask(begin(companies), told(0)), [[-1], [-9]])

    def test_again_all_numbers_are_0(self):
        answered = ask(begin(3), book(0, 9, [1, 1]), pay(2, 0, 4), begin(3), *told_all(3))
        self.assertEqual(answered, [[0], [0], [0], [0]] + [NOTHING] * 3)

    def test_again_with_other_companies(self):
        answered = ask(begin(2), told(3), begin(4), told(3), begin(2), told(3), told(1))
        self.assertEqual(answered, [[0], [-1], [0], NOTHING, [0], [-1], NOTHING])

    def test_refused_leaves_the_books(self):
        for companies in (0, 1, 7, HIGHEST_NUMBER):
            answered = ask(begin(3), book(0, 9, [1, 1]), pay(2, 0, 4), begin(companies), *told_all(3), told(3))
            self.assertEqual(answered[3], [-1])
            self.assertEqual(answered[4:], [[0, -13, 9, 0, -4], [0, 9, 0, 9, 0], [0, 4, 0, 0, 4], [-1]])


class NoBooks(unittest.TestCase):
    def test_right_calls(self):
        self.assertEqual(ask(book(0, 1, [1, 1])), [[-9]])
        self.assertEqual(ask(pay(0, 1, 1)), [[-9]])
        self.assertEqual(ask(told(0)), [[-9]])
        self.assertEqual(ask(settle()), [[-9]])
        self.assertEqual(ask(least()), [[-9]])
        self.assertEqual(ask(save()), [[-9]])

    def test_load_needs_none(self):
        self.assertEqual(ask(load([])), [[-4]])
        self.assertEqual(ask(load(written([[0, 0, 0, 0]] * 2))), [[0]])

    def test_wrong_calls(self):
        wrong = [
            book(0, MOST_CHARGE + 1, [0, 1]),
            book(7, 1, [0, 1]),
            book(0, 1, []),
            book(0, 1, [0, 1] * 500),
            pay(0, 0, 1),
            pay(9, 1, 1),
            pay(0, 1, 0),
            pay(0, 1, HIGHEST_NUMBER),
            told(6),
            told(HIGHEST_NUMBER),
        ]
        self.assertEqual(ask(*wrong), [[-9]] * len(wrong))

    def test_behind_refused_begins(self):
        answered = ask(begin(1), begin(7), told(0), pay(0, 1, 1), book(0, 1, [1, 1]), settle(), least(), save())
        self.assertEqual(answered, [[-1], [-1]] + [[-9]] * 6)

    def test_behind_refused_loads(self):
        asked = [told(0), pay(0, 1, 1), book(0, 1, [1, 1]), settle(), least(), save()]
        self.assertEqual(ask(load([]), load([255] * 1000), *asked), [[-4], [-4]] + [[-9]] * 6)

    def test_begun_or_loaded_there_are_books(self):
        asked = [told(0), pay(0, 1, 1), book(0, 1, [1, 1]), settle(), least(), save()]
        for first in (begin(2), load(written([[0, 0, 0, 0]] * 2))):
            self.assertEqual([answer[0] for answer in ask(first, *asked)], [0] * 7)

    def test_refused_behind_begin_or_load_leaves_books(self):
        for first in (begin(2), load(written([[0, 0, 0, 0]] * 2))):
            self.assertEqual(ask(first, begin(1), load([]), settle(), told(0)), [[0], [-1], [-4], [0, 0], NOTHING])

    def test_share_makes_no_books(self):
        self.assertEqual(ask(share(1, [0, 1]), told(0)), [[0, 1, 1], [-9]])

    def test_what_was_asked_before_begin_is_not_booked(self):
        answered = ask(book(0, 5, [1, 1]), pay(0, 1, 5), begin(2), told(0), told(1))
        self.assertEqual(answered, [[-9], [-9], [0], NOTHING, NOTHING])


if __name__ == "__main__":
    unittest.main()
