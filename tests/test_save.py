import random
import unittest

from tests.asking import BOUND, MOST_CHARGE, ask, begin, book, books_behind, pay, save, told_all, written


def saved_behind(companies, *calls):
    answer = ask(begin(companies), *calls, save())[-1]
    if answer[0] != 0 or answer[1] != len(answer) - 2:
        raise AssertionError(f"no bytes: {answer}")
    return answer[2:]


class Save(unittest.TestCase):
    def test_books_just_begun(self):
        # 67 + 66 + 65 + 49 + 2 is 249; with 6 companies it is 253.
        self.assertEqual(saved_behind(2), [67, 66, 65, 49, 2] + [0] * 64 + [249, 0, 0, 0])
        self.assertEqual(saved_behind(6), [67, 66, 65, 49, 6] + [0] * 192 + [253, 0, 0, 0])

    def test_how_many_bytes(self):
        for companies, length in ((2, 73), (3, 105), (4, 137), (5, 169), (6, 201)):
            self.assertEqual(ask(begin(companies), save())[-1][:2], [0, length])
            self.assertEqual(len(saved_behind(companies)), length)

    def test_the_four_numbers_in_their_order_the_lowest_byte_first(self):
        # Company 0: 40 - 30 + 7 = 17, 30, 40, 7. Company 1: -17, 40, 30, -7.
        saved = saved_behind(2, book(0, 30, [1, 1]), book(1, 40, [0, 1]), pay(0, 1, 7))
        first = [17, 0, 0, 0, 0, 0, 0, 0, 30, 0, 0, 0, 0, 0, 0, 0, 40, 0, 0, 0, 0, 0, 0, 0, 7, 0, 0, 0, 0, 0, 0, 0]
        second = [239] + [255] * 7 + [40] + [0] * 7 + [30] + [0] * 7 + [249] + [255] * 7
        # 249 + 94 + 239 + 40 + 30 + 249 + 14 * 255 is 4471, or 17 * 256 + 119.
        self.assertEqual(saved, [67, 66, 65, 49, 2] + first + second + [119, 17, 0, 0])

    def test_numbers_of_several_bytes(self):
        saved = saved_behind(2, pay(1, 0, 0x0102030405060))
        self.assertEqual(saved[5:13], [0xA0, 0xAF, 0xBF, 0xCF, 0xDF, 0xEF, 0xFF, 0xFF])
        self.assertEqual(saved[37:45], [0x60, 0x50, 0x40, 0x30, 0x20, 0x10, 0, 0])

    def test_numbers_2_to_50_from_0(self):
        saved = saved_behind(2, pay(0, 1, BOUND))
        self.assertEqual(saved[5:13], [0, 0, 0, 0, 0, 0, 4, 0])
        self.assertEqual(saved[37:45], [0, 0, 0, 0, 0, 0, 252, 255])
        self.assertEqual(saved[29:37], saved[5:13])
        self.assertEqual(saved[61:69], saved[37:45])

    def test_the_sum_is_of_all_bytes_before(self):
        # All bytes of 6 companies come to 201 * 255 at most, so the modulus is never reached.
        saved = saved_behind(6, *[pay(0, company, 1) for company in range(1, 6)])
        self.assertEqual(saved[-4:], list(sum(saved[:-4]).to_bytes(4, "little")))
        # Five companies at -1, in their position and their last number: 10 * 8 * 255.
        self.assertEqual(sum(saved[:-4]), 253 + 2 * 5 + 10 * 8 * 255)

    def test_what_told_tells(self):
        source = random.Random(9)
        for turn in range(100):
            companies = source.randint(2, 6)
            calls = []
            for call in range(10):
                start, to = source.sample(range(companies), 2)
                calls.append(pay(start, to, source.choice((1, 300, BOUND // 16, source.randint(1, BOUND // 16)))))
                calls.append(book(start, source.choice((5, MOST_CHARGE)), [start, 1, to, source.randint(1, 65535)]))
            self.assertEqual(saved_behind(companies, *calls), written(books_behind(companies, *calls)))

    def test_saving_changes_nothing(self):
        answered = ask(begin(3), book(0, 9, [1, 1]), *told_all(3), save(), *told_all(3), save())
        self.assertEqual(answered[2:5], answered[6:9])
        self.assertEqual(answered[5], answered[9])


if __name__ == "__main__":
    unittest.main()
