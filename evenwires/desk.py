"""The desk: reads calls out of one list of whole numbers and answers them in another."""

from evenwires.books import WRONG, Books
from evenwires.shares import can_be_shared, shared, weights_of

SHARE = 0
BEGIN = 1
BOOK = 2
PAY = 3
TOLD = 4
SETTLE = 5
LEAST = 6
# 7 is save: what is none of the others is taken for it.
LOAD = 8

# By call: how many whole numbers stand behind its number, and whether a row (or bytes) stands behind these.
HOW_MANY_NUMBERS = (1, 1, 2, 3, 1, 0, 0, 0, 0)
HAS_ROW = (True, False, True, False, False, False, False, False, True)

NO_BOOKS = -9


def answers(calls):
    books = Books()
    answered = []
    at = 0
    while at < len(calls):
        call = calls[at]
        behind_numbers = at + 1 + HOW_MANY_NUMBERS[call]
        numbers = calls[at + 1:behind_numbers]
        at = behind_numbers
        row = []
        if HAS_ROW[call]:
            at = behind_numbers + 1 + calls[behind_numbers]
            row = calls[behind_numbers + 1:at]
        answer = answer_of(books, call, numbers, row)
        answered.append(len(answer))
        answered.extend(answer)
    return answered


def answer_of(books, call, numbers, row):
    if call == SHARE:
        return answer_of_share(numbers[0], row)
    if call == BEGIN:
        return books.begin(numbers[0])
    if call == LOAD:
        return books.load(row)
    # The other calls need books, whatever else is wrong with them.
    if not books.are_there():
        return [NO_BOOKS]
    return answer_with_books(books, call, numbers, row)


def answer_with_books(books, call, numbers, row):
    if call == BOOK:
        return books.book(numbers[0], numbers[1], row)
    if call == PAY:
        return books.pay(numbers[0], numbers[1], numbers[2])
    if call == TOLD:
        return books.told(numbers[0])
    if call == SETTLE:
        return books.settle()
    if call == LEAST:
        return books.least()
    return books.save()


def answer_of_share(charge, row):
    if not can_be_shared(charge, row):
        return [WRONG]
    units = shared(charge, weights_of(row))
    return [0, len(units)] + units
