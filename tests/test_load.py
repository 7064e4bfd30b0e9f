import random
import unittest

from tests.asking import BOUND, MOST_CHARGE, ask, begin, book, least, load, pay, save, settle
from tests.asking import told, told_all, with_sum, written

NOTHING = (0, 0, 0, 0)
EVEN = (NOTHING, NOTHING)
# Of each company: position, collected, got, what it has paid less what it was paid.
SOME = ((-4, 7, 3, 0), (9, 0, 4, 5), (-5, 0, 0, -5))

RIGHT = {
    "2 companies, all 0": written(EVEN),
    "6 companies, all 0": written((NOTHING,) * 6),
    "3 companies": written(SOME),
    "positions and last numbers at 2^50": written(((BOUND, 0, 0, BOUND), (-BOUND, 0, 0, -BOUND))),
    "positions at 2^50 by what is booked": written(((-BOUND, BOUND, 0, 0), (BOUND, 0, BOUND, 0))),
    "last numbers at 2^50, positions 0": written(((0, BOUND, 0, BOUND), (0, 0, BOUND, -BOUND))),
    "collected and got at 2^50": written(((0, BOUND, BOUND, 0), (0, BOUND, BOUND, 0))),
}

# As far as can be, all but what is named is right.
WRONG = {
    "none at all": [],
    "1 byte": [67],
    "4 bytes": [67, 66, 65, 49],
    "5 bytes": [67, 66, 65, 49, 2],
    "a sum of no companies, 8 bytes": with_sum([67, 66, 65, 49]),
    "a byte too few": written(EVEN)[:-1],
    "a byte too few, summed anew": with_sum(written(EVEN)[:-5]),
    "a byte too many": written(EVEN) + [0],
    "a byte too many, summed anew": with_sum(written(EVEN)[:-4] + [0]),
    "a byte too many ahead": [0] + written(EVEN),
    "another mark, first": written(EVEN, mark=(66, 66, 65, 49)),
    "another mark, second": written(EVEN, mark=(67, 67, 65, 49)),
    "another mark, third": written(EVEN, mark=(67, 66, 64, 49)),
    "another mark, last": written(EVEN, mark=(67, 66, 65, 50)),
    "another mark with as great a sum": written(EVEN, mark=(66, 67, 65, 49)),
    "companies 0": written(()),
    "companies 1": written((NOTHING,)),
    "companies 7": written((NOTHING,) * 7),
    "companies 255": written(EVEN, companies=255),
    "2 companies with bytes for 3": written((NOTHING,) * 3, companies=2),
    "3 companies with bytes for 2": written(EVEN, companies=3),
    "1 company with bytes for 2": written(EVEN, companies=1),
    "7 companies with bytes for 6": written((NOTHING,) * 6, companies=7),
    "a greater sum": written(SOME, more=1),
    "a lesser sum": written(SOME, more=-1),
    "the sum and 65,521 more": written(SOME, more=65521),
    "the sum and 2^24 more": written(SOME, more=2 ** 24),
    "a position above": written(((BOUND + 1, 0, 1, BOUND), (-BOUND, 0, 0, -BOUND), (-1, 1, 0, 0))),
    "a position below": written(((-BOUND - 1, 1, 0, -BOUND), (BOUND, 0, 0, BOUND), (1, 0, 1, 0))),
    "a last number above": written(((BOUND, 1, 0, BOUND + 1), (1 - BOUND, 0, 1, -BOUND), (-1, 0, 0, -1))),
    "a last number below": written(((-BOUND, 0, 1, -BOUND - 1), (BOUND - 1, 1, 0, BOUND), (1, 0, 0, 1))),
    "collected below 0": written(((1, -1, 0, 0), (-1, 1, 0, 0))),
    "got below 0": written(((-1, 0, -1, 0), (1, 0, 1, 0))),
    "collected and got below 0": written(((0, -1, -1, 0), NOTHING)),
    "collected above": written(((-1, BOUND + 1, BOUND, 0), (1, 0, 1, 0))),
    "got above": written(((1, BOUND, BOUND + 1, 0), (-1, 1, 0, 0))),
    "a position a unit more": written(((-3, 7, 3, 0), (9, 0, 4, 5), (-5, 0, 0, -5))),
    "two positions not theirs, 0 together": written(((-3, 7, 3, 0), (8, 0, 4, 5), (-5, 0, 0, -5))),
    "the other sign at positions": written(((4, 7, 3, 0), (-9, 0, 4, 5), (5, 0, 0, -5))),
    "positions without the last numbers": written(((-4, 7, 3, 0), (4, 0, 4, 5), (0, 0, 0, -5))),
    "positions less the last numbers": written(((-4, 7, 3, 0), (-1, 0, 4, 5), (5, 0, 0, -5))),
    "a position 2^50 more": written(((BOUND, 0, 0, 0), NOTHING)),
    "last numbers not 0 together": written(((1, 0, 0, 1), NOTHING)),
    "last numbers not 0 together, the last company": written((NOTHING, NOTHING, (-1, 0, 0, -1))),
    "collected more than shares": written(((-1, 1, 0, 0), NOTHING)),
    "shares more than collected": written((NOTHING, (1, 0, 1, 0))),
    "positions 0 together, neither of the others": written(((-1, 1, 0, 0), (1, 0, 0, 1))),
    "the least numbers of 8 bytes": written(((-2 ** 63, 0, 0, -2 ** 63), (-2 ** 63, 0, 0, -2 ** 63))),
    "as far below 0 as 8 bytes go": written(((0, 2 ** 63, -2 ** 63, 0), NOTHING)),
    "1,000 bytes": [255] * 1000,
    "1,000 bytes of 0": [0] * 1000,
    "1,000 bytes that begin well": (written(EVEN) + [0] * 1000)[:1000],
}

# Behind these, the books have 2, 4 and 6 companies.
OTHER_BOOKS = (
    [begin(2)],
    [begin(4), book(0, 100, [0, 3, 1, 4, 2, 4]), pay(3, 0, 8)],
    [begin(6), book(5, 7, [1, 1, 3, 1]), pay(1, 4, 8), pay(2, 4, 9)],
)


class Right(unittest.TestCase):
    def test_loaded_and_saved_as_they_were(self):
        for name, saved in RIGHT.items():
            with self.subTest(name):
                self.assertEqual(ask(load(saved), save()), [[0], [0, len(saved)] + saved])

    def test_where_there_were_other_books(self):
        for name, saved in RIGHT.items():
            for first in OTHER_BOOKS:
                with self.subTest(name, first=first):
                    answered = ask(*first, load(saved), save())
                    self.assertEqual(answered[len(first):], [[0], [0, len(saved)] + saved])

    def test_the_companies_are_those_loaded(self):
        for first in OTHER_BOOKS:
            answered = ask(*first, load(written(SOME)), *told_all(3), told(3), pay(0, 3, 1), pay(3, 0, 1))
            told_of_some = [[0] + list(account) for account in SOME]
            self.assertEqual(answered[len(first):], [[0]] + told_of_some + [[-1], [-1], [-1]])

    def test_books_go_on_from_there(self):
        answered = ask(load(written(SOME)), pay(2, 1, 9), book(0, 6, [2, 1, 0, 2]), *told_all(3), settle(), least())
        self.assertEqual(answered[:3], [[0], [0], [0]])
        self.assertEqual(answered[3:6], [[0, -6, 13, 7, 0], [0, 0, 0, 4, -4], [0, 6, 0, 2, 4]])
        self.assertEqual(answered[6:], [[0, 3, 0, 2, 6], [0, 1, 1]])

    def test_begin_may_come_behind(self):
        answered = ask(load(written(SOME)), begin(2), told(0), told(2))
        self.assertEqual(answered, [[0], [0], [0] * 5, [-1]])


class PromiseFour(unittest.TestCase):
    def some_books(self, source):
        companies = source.randint(2, 6)
        calls = [begin(companies)]
        for turn in range(source.randint(0, 12)):
            start, to = source.sample(range(companies), 2)
            calls.append(source.choice((
                pay(start, to, source.choice((1, BOUND, source.randint(1, BOUND)))),
                book(start, source.choice((1, MOST_CHARGE, source.randint(0, MOST_CHARGE))), [to, 3, start, 2]),
            )))
        return companies, calls

    def test_what_save_has_told_is_loaded(self):
        source = random.Random(10)
        for turn in range(200):
            companies, calls = self.some_books(source)
            asked = told_all(companies) + [told(companies), settle(), least(), save()]
            before = ask(*calls, *asked)[len(calls):]
            saved = before[-1][2:]
            self.assertEqual(ask(load(saved), *asked), [[0]] + before)
            first = source.choice(OTHER_BOOKS)
            self.assertEqual(ask(*first, load(saved), *asked)[len(first):], [[0]] + before)

    def test_any_byte_changed_alone_is_refused(self):
        source = random.Random(11)
        for saved in (written(SOME), written((NOTHING,) * 6)):
            for place in range(len(saved)):
                changed = list(saved)
                changed[place] = (changed[place] + source.randint(1, 255)) % 256
                self.assertEqual(ask(load(changed), told(0)), [[-4], [-9]], place)

    def test_any_byte_changed_and_summed_anew_is_refused(self):
        # No number can be changed alone.
        source = random.Random(12)
        for saved in (written(SOME), written((NOTHING,) * 6)):
            for place in range(len(saved) - 4):
                changed = saved[:-4]
                changed[place] = (changed[place] + source.randint(1, 255)) % 256
                self.assertEqual(ask(load(with_sum(changed)), told(0)), [[-4], [-9]], place)


class Refused(unittest.TestCase):
    def test_without_books_there_are_still_none(self):
        for name, saved in WRONG.items():
            with self.subTest(name):
                self.assertEqual(ask(load(saved), told(0), settle(), save()), [[-4], [-9], [-9], [-9]])

    def test_everything_is_as_it_was(self):
        for name, saved in WRONG.items():
            for first in OTHER_BOOKS + ([load(written(SOME))],):
                with self.subTest(name, first=first):
                    asked = told_all(6) + [settle(), least(), save()]
                    before = ask(*first, *asked)[len(first):]
                    self.assertEqual(ask(*first, load(saved), *asked)[len(first):], [[-4]] + before)

    def test_a_right_load_behind_a_refused_one(self):
        answered = ask(load([]), load(written(SOME)), load(written(SOME, more=1)), told(1))
        self.assertEqual(answered, [[-4], [0], [-4], [0, 9, 0, 4, 5]])


class CloseToTheBound(unittest.TestCase):
    """Books loaded a unit from 2^50: the first call reaches it, the same again is a unit too far."""

    def check(self, accounts, call, at_bound):
        saved = written(accounts)
        companies = len(accounts)
        answered = ask(load(saved), call, *told_all(companies), call, *told_all(companies), save())
        self.assertEqual(answered[:2], [[0], [0]])
        behind = answered[2:2 + companies]
        company, place, number = at_bound
        self.assertEqual(behind[company][1 + place], number)
        self.assertEqual(answered[2 + companies], [-5])
        self.assertEqual(answered[3 + companies:-1], behind)
        self.assertEqual(answered[-1][2:], written([told_of[1:] for told_of in behind]))

    def test_collected(self):
        near = BOUND - 1
        self.check(((0, near, near, 0), NOTHING), book(0, 1, [1, 1]), (0, 1, BOUND))
        self.check(((-9, near, near - 9, 0), NOTHING, (9, 0, 9, 0)), book(0, 1, [1, 1, 2, 1]), (0, 1, BOUND))

    def test_got(self):
        near = BOUND - 1
        self.check(((0, near, near, 0), NOTHING), book(1, 1, [0, 1]), (0, 2, BOUND))
        # Of 3 units two go to company 0, which has room for just these.
        self.check(((0, near - 1, near - 1, 0), NOTHING, NOTHING), book(1, 3, [0, 2, 2, 1]), (0, 2, BOUND))

    def test_collected_and_got(self):
        near = BOUND - 1
        self.check(((0, near, near, 0), NOTHING), book(0, 1, [0, 1]), (0, 1, BOUND))
        self.check(((0, near, near, 0), NOTHING), book(0, 1, [0, 1]), (0, 2, BOUND))

    def test_a_position_by_book(self):
        near = BOUND - 1
        self.check(((near, 0, 0, near), (-near, 0, 0, -near), NOTHING), book(2, 1, [0, 1]), (0, 0, BOUND))
        self.check(((near, 0, 0, near), (-near, 0, 0, -near), NOTHING), book(1, 1, [2, 1]), (1, 0, -BOUND))

    def test_a_position_by_pay(self):
        # The last numbers have room.
        near = BOUND - 1
        accounts = ((near, 0, near, 0), (-near, near, 0, 0), NOTHING)
        self.check(accounts, pay(0, 2, 1), (0, 0, BOUND))
        self.check(accounts, pay(2, 1, 1), (1, 0, -BOUND))

    def test_the_last_number(self):
        # The positions have room.
        near = BOUND - 1
        accounts = ((0, near, 0, near), (0, 0, near, -near), NOTHING)
        self.check(accounts, pay(0, 2, 1), (0, 3, BOUND))
        self.check(accounts, pay(2, 1, 1), (1, 3, -BOUND))

    def test_farther_at_once(self):
        accounts = ((5 - BOUND, BOUND - 5, 0, 0), (BOUND - 5, 0, BOUND - 5, 0))
        for units, number in ((5, 0), (6, -5), (MOST_CHARGE, -5)):
            self.assertEqual(ask(load(written(accounts)), book(0, units, [1, 1])), [[0], [number]])
            self.assertEqual(ask(load(written(accounts)), pay(1, 0, units)), [[0], [number]])


if __name__ == "__main__":
    unittest.main()
