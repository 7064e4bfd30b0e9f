import unittest

from evenwires.desk import answers
from tests.asking import ask, begin, book, joined, least, load, pay, save, settle, share, told, written

EVEN_BYTES = written([[0, 0, 0, 0]] * 2)
MIXED = joined([
    told(0), share(7, [0, 1, 1, 1]), begin(2), book(0, 7, [0, 1, 1, 1]), pay(1, 0, 9), told(0), told(1), told(2),
    begin(9), share(7, []), share(7, [0, 1, 1]), told(1), settle(), least(), load([7, 7]), load(EVEN_BYTES), settle(),
    least(), save(), load([]), told(1),
])


class Interface(unittest.TestCase):
    def test_answers_number_by_number(self):
        self.assertEqual(answers([4, 0]), [1, -9])
        self.assertEqual(answers([0, 7, 4, 0, 1, 1, 1]), [4, 0, 2, 4, 3])
        self.assertEqual(answers([0, 7, 0]), [1, -1])
        self.assertEqual(answers([1, 2]), [1, 0])
        self.assertEqual(answers([1, 2, 2, 0, 7, 2, 1, 1]), [1, 0, 1, 0])
        self.assertEqual(answers([1, 2, 3, 0, 1, 7, 4, 1]), [1, 0, 1, 0, 5, 0, -7, 0, 0, -7])
        self.assertEqual(answers([5]), [1, -9])
        self.assertEqual(answers([1, 2, 5]), [1, 0, 2, 0, 0])
        self.assertEqual(answers([1, 2, 3, 0, 1, 7, 5]), [1, 0, 1, 0, 5, 0, 3, 1, 0, 7])
        self.assertEqual(answers([1, 2, 3, 0, 1, 7, 6]), [1, 0, 1, 0, 3, 0, 1, 1])
        self.assertEqual(answers([1, 2, 7]), [1, 0, 75, 0, 73] + EVEN_BYTES)
        self.assertEqual(answers([8, 0]), [1, -4])
        self.assertEqual(answers([8, 73] + EVEN_BYTES), [1, 0])

    def test_several_calls_in_one_list(self):
        self.assertEqual(answers(MIXED), [
            1, -9, 4, 0, 2, 4, 3, 1, 0, 1, 0, 1, 0, 5, 0, -12, 7, 4, -9, 5, 0, 12, 0, 3, 9, 1, -1,
            1, -1, 1, -1, 1, -1, 5, 0, 12, 0, 3, 9, 5, 0, 3, 0, 1, 12, 3, 0, 1, 1, 1, -4, 1, 0, 2, 0, 0,
            3, 0, 0, 0, 75, 0, 73, 67, 66, 65, 49, 2,
        ] + [0] * 64 + [249, 0, 0, 0, 1, -4, 5, 0, 0, 0, 0, 0])

    def test_rows_that_are_refused_are_passed_over_whole(self):
        # Read as calls, these rows would begin books.
        for row in ([1], [1, 2, 1], [1, 2] * 7, [1, 2] * 500):
            self.assertEqual(ask(share(1, row), told(0)), [[-1], [-9]])
            self.assertEqual(ask(book(0, 1, row), told(0)), [[-9], [-9]])
            self.assertEqual(ask(begin(6), book(0, 1, row), told(0)), [[0], [-1], [0] * 5])

    def test_bytes_that_are_refused_are_passed_over_whole(self):
        # Read as calls, these bytes would begin books.
        for wrong in ([1], [1, 2], [1, 2, 1], [1, 2] * 500):
            self.assertEqual(ask(load(wrong), told(0)), [[-4], [-9]])
            self.assertEqual(ask(begin(6), load(wrong), told(5)), [[0], [-4], [0] * 5])

    def test_bytes_that_are_loaded_are_passed_over_whole(self):
        self.assertEqual(ask(load(EVEN_BYTES), load(EVEN_BYTES), told(0)), [[0], [0], [0] * 5])

    def test_400_calls(self):
        calls = [begin(2)] + [book(0, 3, [1, 1]) for turn in range(398)] + [told(0)]
        self.assertEqual(ask(*calls), [[0]] * 399 + [[0, -1194, 1194, 0, 0]])

    def test_a_list_near_19000_numbers_long(self):
        long_rows = [book(0, 1, [0, 1] * 500) for turn in range(9)] + [share(1, [2] * 1000) for turn in range(9)]
        calls = [begin(2)] + long_rows + [pay(0, 1, 5) for turn in range(230)] + [told(0)]
        self.assertTrue(18900 < len(joined(calls)) <= 19000)
        self.assertLessEqual(len(calls), 400)
        self.assertEqual(ask(*calls), [[0]] + [[-1]] * 18 + [[0]] * 230 + [[0, 1150, 0, 0, 1150]])

    def test_the_list_handed_in_stays_as_it_was(self):
        handed_in = list(MIXED)
        given_back = answers(handed_in)
        self.assertEqual(handed_in, MIXED)
        self.assertIsNot(given_back, handed_in)

    def test_the_list_is_never_changed_for_a_while(self):
        class Unchanging(list):
            def refuse(self, *given, **named):
                raise AssertionError("the list handed in is being changed")

            append = extend = insert = pop = remove = clear = reverse = sort = refuse
            __setitem__ = __delitem__ = __iadd__ = __imul__ = refuse

        self.assertEqual(answers(Unchanging(MIXED)), answers(MIXED))

    def test_asked_twice_it_answers_the_same(self):
        first = answers(list(MIXED))
        self.assertEqual(answers(list(MIXED)), first)
        first.append(1)
        self.assertEqual(answers(list(MIXED)) + [1], first)

    def test_nothing_is_kept_from_one_time_to_the_next(self):
        self.assertEqual(ask(begin(2), pay(0, 1, 5)), [[0], [0]])
        self.assertEqual(ask(told(0)), [[-9]])
        self.assertEqual(ask(begin(2), told(0)), [[0], [0] * 5])
        self.assertEqual(ask(load(EVEN_BYTES)), [[0]])
        self.assertEqual(ask(save()), [[-9]])


if __name__ == "__main__":
    unittest.main()
