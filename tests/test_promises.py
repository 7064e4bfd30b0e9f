"""MAIN: the promises over mixed calls, and all answers beside a second, plainer reckoning."""

import random
import unittest

from tests.asking import BOUND, HIGHEST_NUMBER, MOST_CHARGE, ask, begin, book, joined, least, load, pay, save
from tests.asking import searched, searched_groups, settle, share, told, told_all, with_sum, written


def plain_shares(charge, row):
    """By handing out what is left over unit by unit; None where share refuses."""
    companies = row[0::2]
    weights = row[1::2]
    right_length = len(row) in (2, 4, 6, 8, 10, 12)
    if charge > MOST_CHARGE or not right_length or len(set(companies)) < len(companies):
        return None
    if max(companies) > 5 or min(weights) == 0 or max(weights) > 65535:
        return None
    shares = [charge * weight // sum(weights) for weight in weights]
    rests = [charge * weight % sum(weights) for weight in weights]
    while sum(shares) < charge:
        place = rests.index(max(rests))
        shares[place] += 1
        rests[place] = -1
    return shares


class PlainBooks:
    def __init__(self):
        self.numbers = None

    def answer(self, call):
        kind = call[0]
        if kind == 0:
            shares = plain_shares(call[1], call[3:])
            return [-1] if shares is None else [0, len(shares)] + shares
        if kind == 1:
            if not 2 <= call[1] <= 6:
                return [-1]
            self.numbers = {company: [0, 0, 0, 0] for company in range(call[1])}
            return [0]
        if kind == 8:
            return self.load(call[2:])
        if self.numbers is None:
            return [-9]
        if kind == 2:
            return self.book(call[1], call[2], call[4:])
        if kind == 3:
            return self.pay(*call[1:])
        if kind == 4:
            return [0] + self.numbers[call[1]] if call[1] in self.numbers else [-1]
        return self.answer_of_all()[kind]()

    def answer_of_all(self):
        positions = [four[0] for four in self.numbers.values()]
        return {
            5: lambda: [0, 3 * len(searched(positions))] + joined(searched(positions)),
            6: lambda: [0, len(searched(positions)), searched_groups(positions)],
            7: lambda: [0, 9 + 32 * len(positions)] + written(list(self.numbers.values())),
        }

    def load(self, saved):
        companies = (len(saved) - 9) // 32
        fours = [
            [int.from_bytes(saved[at:at + 8], "little", signed=True) for at in range(first, first + 32, 8)]
            for first in range(5, 5 + 32 * companies, 32)
        ]
        # Written anew they are the same only with the right length, mark, companies and sum.
        right = 2 <= companies <= 6 and written(fours) == saved
        for position, collected, got, paid in fours:
            right = right and position == got - collected + paid and min(collected, got) >= 0
            right = right and max(abs(position), collected, got, abs(paid)) <= BOUND
        right = right and sum(four[3] for four in fours) == 0
        if not right or sum(four[1] for four in fours) != sum(four[2] for four in fours):
            return [-4]
        self.numbers = dict(enumerate(fours))
        return [0]

    def book(self, by, charge, row):
        shares = plain_shares(charge, row)
        if shares is None or by not in self.numbers or not set(row[0::2]) <= set(self.numbers):
            return [-1]
        changes = [(by, 0, -charge), (by, 1, charge)]
        for company, units in zip(row[0::2], shares):
            changes += [(company, 0, units), (company, 2, units)]
        return self.change(changes)

    def pay(self, start, to, units):
        if start not in self.numbers or to not in self.numbers or start == to or not 1 <= units <= BOUND:
            return [-1]
        return self.change([(start, 0, units), (start, 3, units), (to, 0, -units), (to, 3, -units)])

    def change(self, changes):
        changed = {company: list(four) for company, four in self.numbers.items()}
        for company, place, units in changes:
            changed[company][place] += units
        if any(abs(number) > BOUND for four in changed.values() for number in four):
            return [-5]
        self.numbers = changed
        return [0]


def some_row(source, companies):
    members = source.sample(range(companies), source.randint(1, companies))
    row = []
    for company in members:
        row += [company, source.choice((1, 2, 3, 65535, source.randint(1, 65535)))]
    if source.random() < 0.15:
        row[source.randrange(len(row))] = source.choice((0, 5, 6, 65536, HIGHEST_NUMBER))
    if source.random() < 0.05:
        row.append(1)
    return row


def parted(source, units, companies):
    """Units parted among the companies, none below 0."""
    cuts = sorted(source.choice((0, units, source.randint(0, units))) for turn in range(companies - 1))
    return [high - low for low, high in zip([0] + cuts, cuts + [units])]


def some_bytes(source, companies):
    """Books' bytes, often close to the bound, right ones for the greater part."""
    units = source.choice((0, 9, BOUND - 1, BOUND, source.randint(0, BOUND)))
    collected = parted(source, units, companies)
    got = parted(source, units, companies)
    paid = [0] * companies
    for turn in range(source.randint(0, 3)):
        start, to = source.sample(range(companies), 2)
        moved = source.choice((1, BOUND, collected[start], source.randint(0, BOUND)))
        paid[start] += moved
        paid[to] -= moved
    fours = [[more - less + moved, less, more, moved] for less, more, moved in zip(collected, got, paid)]
    if source.random() < 0.1:
        source.choice(fours)[source.randrange(4)] += source.choice((-1, 1))
    saved = written(fours, more=source.choice((0,) * 20 + (1, 65521)))
    return saved if source.random() < 0.9 else with_sum(saved[:source.randrange(len(saved))])


def some_call(source, companies):
    company = source.randint(0, companies) if source.random() < 0.1 else source.randrange(companies)
    other = source.randint(0, companies) if source.random() < 0.1 else source.randrange(companies)
    charge = source.choice((0, 1, 7, MOST_CHARGE, MOST_CHARGE + 1, source.randint(0, MOST_CHARGE)))
    near = source.choice((0, 1, 7, BOUND, BOUND + 1, BOUND - MOST_CHARGE, source.randint(1, BOUND)))
    return source.choice((
        share(charge, some_row(source, 6)),
        book(company, charge, some_row(source, companies)),
        book(company, charge, some_row(source, companies)),
        book(company, charge, some_row(source, companies)),
        pay(company, other, near),
        pay(company, other, near),
        pay(company, other, near),
        told(company),
        begin(source.choice((0, 1, 7, HIGHEST_NUMBER))),
        source.choice((settle(), least(), save())),
        load(some_bytes(source, companies)),
    ))


def some_calls(source, companies, how_many):
    return [some_call(source, companies) for turn in range(how_many)]


class MixedCalls(unittest.TestCase):
    def check(self, companies, calls):
        """Behind each call all companies are asked, so that each change and refusal is seen."""
        asked = [begin(companies)] + told_all(companies)
        for call in calls:
            asked += [call] + told_all(companies)
        answered = ask(*asked)
        before = answered[1:companies + 1]
        for turn, call in enumerate(calls):
            first = (turn + 1) * (companies + 1)
            after = answered[first + 1:first + 1 + companies]
            self.assertEqual(sum(answer[1] for answer in after), 0)
            self.assertEqual(sum(answer[4] for answer in after), 0)
            self.assertEqual(sum(answer[2] for answer in after), sum(answer[3] for answer in after))
            if answered[first][0] != 0 or call[0] in (0, 4, 5, 6, 7):
                self.assertEqual(after, before)
            if call[0] == 5:
                self.check_settled([answer[1] for answer in after], answered[first][2:])
            before = after
        return [answered[(turn + 1) * (companies + 1)][0] for turn in range(len(calls))]

    def check_settled(self, positions, numbers):
        for at in range(0, len(numbers), 3):
            positions[numbers[at]] += numbers[at + 2]
            positions[numbers[at + 1]] -= numbers[at + 2]
        self.assertEqual(positions, [0] * len(positions))

    def test_positions_come_to_0_and_refusals_change_nothing(self):
        source = random.Random(2)
        seen = []
        for companies in range(2, 7):
            for turn in range(30):
                seen += self.check(companies, some_calls(source, companies, 50))
        for number in (0, -1, -4, -5):
            self.assertGreater(seen.count(number), 100)

    def test_beside_the_plainer_reckoning(self):
        source = random.Random(3)
        seen = []
        for turn in range(100):
            companies = source.randint(2, 6)
            calls = some_calls(source, companies, 10) + [begin(companies)] + some_calls(source, companies, 150)
            calls += [load(some_bytes(source, source.randint(2, 6)))] + some_calls(source, companies, 50)
            calls += [begin(source.randint(2, 6))] + some_calls(source, companies, 50) + told_all(6)
            plain = PlainBooks()
            answered = ask(*calls)
            for call, answer in zip(calls, answered):
                self.assertEqual(answer, plain.answer(call), call)
                seen.append((call[0], answer[0]))
        for number in (5, 6, 7):
            self.assertGreater(seen.count((number, 0)), 100)
        self.assertGreater(seen.count((8, 0)), 300)
        self.assertGreater(seen.count((8, -4)), 300)


if __name__ == "__main__":
    unittest.main()
