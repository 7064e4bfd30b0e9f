"""What the tests share: calls as the interface has them, their answers taken apart, what is refused, and searches."""

from functools import lru_cache
from itertools import combinations

from evenwires.desk import answers

MOST_CHARGE = 2 ** 40
BOUND = 2 ** 50
HIGHEST_NUMBER = 2 ** 53 - 1

# What share refuses, and book with it.
WRONG_ROWS = {
    "no company": [],
    "one number": [0],
    "an odd number of numbers": [0, 1, 1],
    "an odd number of numbers, 11": [0, 1, 1, 1, 2, 1, 3, 1, 4, 1, 5],
    "an odd number of numbers, 13": [0, 1, 1, 1, 2, 1, 3, 1, 4, 1, 5, 1, 0],
    "seven companies": [0, 1, 1, 1, 2, 1, 3, 1, 4, 1, 5, 1, 6, 1],
    "seven, the first again": [0, 1, 1, 1, 2, 1, 3, 1, 4, 1, 5, 1, 0, 1],
    "company 6": [6, 1],
    "company 6 behind another": [0, 1, 6, 1],
    "the highest company": [HIGHEST_NUMBER, 1],
    "a company twice": [0, 1, 0, 1],
    "a company twice with another between": [0, 1, 1, 1, 0, 2],
    "weight 0": [0, 0],
    "weight 0 behind another": [0, 1, 1, 0],
    "weight 65,536": [0, 65536],
    "weight 65,536 behind another": [0, 1, 1, 65536],
    "the highest weight": [0, HIGHEST_NUMBER],
    "1,000 numbers": [0, 1] * 500,
    "1,000 numbers, all different": list(range(1, 1001)),
    "999 numbers": [1] * 999,
}
WRONG_CHARGES = (MOST_CHARGE + 1, HIGHEST_NUMBER)


def share(charge, row):
    return [0, charge, len(row)] + list(row)


def begin(companies):
    return [1, companies]


def book(by, charge, row):
    return [2, by, charge, len(row)] + list(row)


def pay(start, to, units):
    return [3, start, to, units]


def told(company):
    return [4, company]


def settle():
    return [5]


def least():
    return [6]


def save():
    return [7]


def load(saved):
    return [8, len(saved)] + list(saved)


def told_all(companies):
    return [told(company) for company in range(companies)]


def joined(calls):
    return [number for call in calls for number in call]


def taken_apart(answered):
    apart = []
    at = 0
    while at < len(answered):
        behind = at + 1 + answered[at]
        if answered[at] < 1 or behind > len(answered):
            raise AssertionError(f"no right count at {at} of {answered}")
        apart.append(answered[at + 1:behind])
        at = behind
    return apart


def ask(*calls):
    """The answers to these calls, a list each."""
    answered = answers(joined(calls))
    if type(answered) is not list or any(type(number) is not int for number in answered):
        raise AssertionError(f"not a list of whole numbers: {answered}")
    apart = taken_apart(answered)
    if len(apart) != len(calls):
        raise AssertionError(f"{len(calls)} calls, {len(apart)} answers")
    return apart


def books_behind(companies, *calls):
    """What told tells of each company behind begin and these calls, without the 0 ahead."""
    answered = ask(begin(companies), *calls, *told_all(companies))
    return [answer[1:] for answer in answered[1 + len(calls):]]


def check_wrong(case, companies, wrong):
    """Asked behind a charge and a payment, the call is answered -1 and leaves the books."""
    first = [book(0, 10, [0, 1, 1, 2]), pay(0, 1, 3)]
    answered = ask(begin(companies), *first, wrong)
    case.assertEqual(answered, [[0], [0], [0], [-1]])
    case.assertEqual(books_behind(companies, *first, wrong), books_behind(companies, *first))


def pays_to(positions):
    """Payments that bring books just begun to these positions, all of which come to 0."""
    left = list(positions)
    calls = []
    while any(left):
        high = left.index(max(left))
        low = left.index(min(left))
        units = min(left[high], -left[low])
        calls.append(pay(high, low, units))
        left[high] -= units
        left[low] += units
    return calls


def payments_told(positions):
    """The settlement that settle tells at these positions, a tuple for each payment."""
    answer = ask(begin(len(positions)), *pays_to(positions), settle())[-1]
    if answer[0] != 0 or answer[1] != len(answer) - 2 or answer[1] % 3 != 0:
        raise AssertionError(f"no settlement: {answer}")
    return [tuple(answer[at:at + 3]) for at in range(2, len(answer), 3)]


def lowest_first(number, length):
    return list((number % 256 ** length).to_bytes(length, "little"))


def with_sum(ahead, more=0):
    """These bytes and their sum behind them, which is right if more is 0."""
    return list(ahead) + lowest_first(sum(ahead) % 65521 + more, 4)


def written(accounts, mark=(67, 66, 65, 49), companies=None, more=0):
    """Books' bytes, right or not. An account: position, collected, got, what was paid less what it was paid."""
    ahead = list(mark) + [len(accounts) if companies is None else companies]
    for account in accounts:
        for number in account:
            ahead += lowest_first(number, 8)
    return with_sum(ahead, more)


def first_told(settlements):
    """Of settlements with as many payments each, the one that the document tells."""
    return min(settlements, key=lambda payments: (sum(units for start, to, units in payments), payments))


def searched_plainly(positions):
    """The settlement told, by trying all payments of all units: for few companies and few units alone.

    More units than all positions hold could only go around and come back.
    """
    companies = range(len(positions))
    pairs = [(start, to) for start in companies for to in companies if start != to]
    most = sum(abs(position) for position in positions)

    def settlements(left, first, how_many):
        uneven = sum(1 for position in left if position != 0)
        # A payment makes two companies even at most.
        if uneven > 2 * how_many:
            return
        if how_many == 0:
            yield []
            return
        for place in range(first, len(pairs)):
            start, to = pairs[place]
            for units in range(1, most + 1):
                behind = list(left)
                behind[start] += units
                behind[to] -= units
                for others in settlements(behind, place + 1, how_many - 1):
                    yield [(start, to, units)] + others

    how_many = 0
    while True:
        found = list(settlements(positions, 0, how_many))
        if found:
            return first_told(found)
        how_many += 1


def picked_apart(companies, pairs):
    """The pairs in an order in which the first company of each stands in none behind it; None if there's a ring."""
    left = list(pairs)
    order = []
    while left:
        ends = [company for company in range(companies) if sum(company in pair for pair in left) == 1]
        if not ends:
            return None
        pair = [pair for pair in left if ends[0] in pair][0]
        left.remove(pair)
        order.append((ends[0], pair[0] + pair[1] - ends[0]))
    return order


@lru_cache(maxsize=None)
def ringless(companies, how_many):
    """All sets of so many pairs of companies without a ring, picked apart."""
    every_pair = list(combinations(range(companies), 2))
    apart = [picked_apart(companies, pairs) for pairs in combinations(every_pair, how_many)]
    return [order for order in apart if order is not None]


def settled_along(positions, order):
    """The payments along these pairs, in whichever way each must go; None where that's no settlement."""
    left = list(positions)
    payments = []
    for end, other in order:
        if left[end] == 0:
            return None
        payments.append((other, end, left[end]) if left[end] > 0 else (end, other, -left[end]))
        left[other] += left[end]
        left[end] = 0
    return None if any(left) else sorted(payments)


def searched(positions):
    """The settlement told, by trying all sets of pairs, companies at 0 and detours among them.

    Sets with a ring are left out: units shifted around it until a payment is 0 make a settlement with fewer.
    """
    how_many = 0
    while True:
        tried = [settled_along(positions, order) for order in ringless(len(positions), how_many)]
        found = [payments for payments in tried if payments is not None]
        if found:
            return first_told(found)
        how_many += 1


def partitions(members):
    if not members:
        yield []
        return
    for rest in partitions(members[1:]):
        yield [[members[0]]] + rest
        for place, group in enumerate(rest):
            yield rest[:place] + [[members[0]] + group] + rest[place + 1:]


def searched_groups(positions):
    """The most groups, by trying all ways to part the positions that aren't 0."""
    uneven = [position for position in positions if position != 0]
    return max(len(groups) for groups in partitions(uneven) if not any(sum(group) for group in groups))


def some_positions(source, companies, most):
    """Positions within most of 0 that come to 0 together; small ones make groups likely."""
    while True:
        positions = [source.randint(-most, most) for company in range(companies - 1)]
        positions.insert(source.randrange(companies), -sum(positions))
        if max(abs(position) for position in positions) <= most:
            return positions
