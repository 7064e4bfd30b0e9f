"""What the tests share: calls as the interface has them, their answers taken apart, and what is refused."""

from evenwires.desk import answers

MOST_CHARGE = 2 ** 40
BOUND = 2 ** 50
HIGHEST_NUMBER = 2 ** 53 - 1

# What share refuses, and book with it.
WRONG_ROWS = {
    "no company": [],
    "one number": [0],
    "an odd number of numbers": [0, 1, 1],
    "an odd number of numbers, 11": [0, 1, 1, 1, 2, 1, 3, 1, 4, 1, 5],
    "an odd number of numbers, 13": [0, 1, 1, 1, 2, 1, 3, 1, 4, 1, 5, 1, 0],
    "seven companies": [0, 1, 1, 1, 2, 1, 3, 1, 4, 1, 5, 1, 6, 1],
    "seven, the first again": [0, 1, 1, 1, 2, 1, 3, 1, 4, 1, 5, 1, 0, 1],
    "company 6": [6, 1],
    "company 6 behind another": [0, 1, 6, 1],
    "the highest company": [HIGHEST_NUMBER, 1],
    "a company twice": [0, 1, 0, 1],
    "a company twice with another between": [0, 1, 1, 1, 0, 2],
    "weight 0": [0, 0],
    "weight 0 behind another": [0, 1, 1, 0],
    "weight 65,536": [0, 65536],
    "weight 65,536 behind another": [0, 1, 1, 65536],
    "the highest weight": [0, HIGHEST_NUMBER],
    "1,000 numbers": [0, 1] * 500,
    "1,000 numbers, all different": list(range(1, 1001)),
    "999 numbers": [1] * 999,
}
WRONG_CHARGES = (MOST_CHARGE + 1, HIGHEST_NUMBER)


def share(charge, row):
    return [0, charge, len(row)] + list(row)


def begin(companies):
    return [1, companies]


def book(by, charge, row):
    return [2, by, charge, len(row)] + list(row)


def pay(start, to, units):
    return [3, start, to, units]


def told(company):
    return [4, company]


def told_all(companies):
    return [told(company) for company in range(companies)]


def joined(calls):
    return [number for call in calls for number in call]


def taken_apart(answered):
    apart = []
    at = 0
    while at < len(answered):
        behind = at + 1 + answered[at]
        if answered[at] < 1 or behind > len(answered):
            raise AssertionError(f"no right count at {at} of {answered}")
        apart.append(answered[at + 1:behind])
        at = behind
    return apart


def ask(*calls):
    """The answers to these calls, a list each."""
    answered = answers(joined(calls))
    if type(answered) is not list or any(type(number) is not int for number in answered):
        raise AssertionError(f"not a list of whole numbers: {answered}")
    apart = taken_apart(answered)
    if len(apart) != len(calls):
        raise AssertionError(f"{len(calls)} calls, {len(apart)} answers")
    return apart


def books_behind(companies, *calls):
    """What told tells of each company behind begin and these calls, without the 0 ahead."""
    answered = ask(begin(companies), *calls, *told_all(companies))
    return [answer[1:] for answer in answered[1 + len(calls):]]


def check_wrong(case, companies, wrong):
    """Asked behind a charge and a payment, the call is answered -1 and leaves the books."""
    first = [book(0, 10, [0, 1, 1, 2]), pay(0, 1, 3)]
    answered = ask(begin(companies), *first, wrong)
    case.assertEqual(answered, [[0], [0], [0], [-1]])
    case.assertEqual(books_behind(companies, *first, wrong), books_behind(companies, *first))
