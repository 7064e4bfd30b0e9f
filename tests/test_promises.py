"""Promises 2 and 5 over mixed calls, and all answers beside a second, plainer reckoning."""

import random
import unittest

from tests.asking import BOUND, HIGHEST_NUMBER, MOST_CHARGE, ask, begin, book, pay, share, told, told_all


def plain_shares(charge, row):
    """By handing out what is left over unit by unit; None where share refuses."""
    companies = row[0::2]
    weights = row[1::2]
    right_length = len(row) in (2, 4, 6, 8, 10, 12)
    if charge > MOST_CHARGE or not right_length or len(set(companies)) < len(companies):
        return None
    if max(companies) > 5 or min(weights) == 0 or max(weights) > 65535:
        return None
    shares = [charge * weight // sum(weights) for weight in weights]
    rests = [charge * weight % sum(weights) for weight in weights]
    while sum(shares) < charge:
        place = rests.index(max(rests))
        shares[place] += 1
        rests[place] = -1
    return shares


class PlainBooks:
    def __init__(self):
        self.numbers = None

    def answer(self, call):
        kind = call[0]
        if kind == 0:
            shares = plain_shares(call[1], call[3:])
            return [-1] if shares is None else [0, len(shares)] + shares
        if kind == 1:
            if not 2 <= call[1] <= 6:
                return [-1]
            self.numbers = {company: [0, 0, 0, 0] for company in range(call[1])}
            return [0]
        if self.numbers is None:
            return [-9]
        if kind == 4:
            return [0] + self.numbers[call[1]] if call[1] in self.numbers else [-1]
        return self.book(call[1], call[2], call[4:]) if kind == 2 else self.pay(*call[1:])

    def book(self, by, charge, row):
        shares = plain_shares(charge, row)
        if shares is None or by not in self.numbers or not set(row[0::2]) <= set(self.numbers):
            return [-1]
        changes = [(by, 0, -charge), (by, 1, charge)]
        for company, units in zip(row[0::2], shares):
            changes += [(company, 0, units), (company, 2, units)]
        return self.change(changes)

    def pay(self, start, to, units):
        if start not in self.numbers or to not in self.numbers or start == to or not 1 <= units <= BOUND:
            return [-1]
        return self.change([(start, 0, units), (start, 3, units), (to, 0, -units), (to, 3, -units)])

    def change(self, changes):
        changed = {company: list(four) for company, four in self.numbers.items()}
        for company, place, units in changes:
            changed[company][place] += units
        if any(abs(number) > BOUND for four in changed.values() for number in four):
            return [-5]
        self.numbers = changed
        return [0]


def some_row(source, companies):
    members = source.sample(range(companies), source.randint(1, companies))
    row = []
    for company in members:
        row += [company, source.choice((1, 2, 3, 65535, source.randint(1, 65535)))]
    if source.random() < 0.15:
        row[source.randrange(len(row))] = source.choice((0, 5, 6, 65536, HIGHEST_NUMBER))
    if source.random() < 0.05:
        row.append(1)
    return row


def some_call(source, companies):
    company = source.randint(0, companies) if source.random() < 0.1 else source.randrange(companies)
    other = source.randint(0, companies) if source.random() < 0.1 else source.randrange(companies)
    charge = source.choice((0, 1, 7, MOST_CHARGE, MOST_CHARGE + 1, source.randint(0, MOST_CHARGE)))
    near = source.choice((0, 1, 7, BOUND, BOUND + 1, BOUND - MOST_CHARGE, source.randint(1, BOUND)))
    return source.choice((
        share(charge, some_row(source, 6)),
        book(company, charge, some_row(source, companies)),
        book(company, charge, some_row(source, companies)),
        pay(company, other, near),
        pay(company, other, near),
        told(company),
        begin(source.choice((0, 1, 7, HIGHEST_NUMBER))),
    ))


def some_calls(source, companies, how_many):
    return [some_call(source, companies) for turn in range(how_many)]


class MixedCalls(unittest.TestCase):
    def check(self, companies, calls):
        """Behind each call all companies are asked, so that each change and refusal is seen."""
        asked = [begin(companies)] + told_all(companies)
        for call in calls:
            asked += [call] + told_all(companies)
        answered = ask(*asked)
        before = answered[1:companies + 1]
        for turn, call in enumerate(calls):
            first = (turn + 1) * (companies + 1)
            after = answered[first + 1:first + 1 + companies]
            self.assertEqual(sum(answer[1] for answer in after), 0)
            self.assertEqual(sum(answer[4] for answer in after), 0)
            self.assertEqual(sum(answer[2] for answer in after), sum(answer[3] for answer in after))
            if answered[first][0] != 0 or call[0] in (0, 4):
                self.assertEqual(after, before)
            before = after
        return [answered[(turn + 1) * (companies + 1)][0] for turn in range(len(calls))]

    def test_positions_come_to_0_and_refusals_change_nothing(self):
        source = random.Random(2)
        seen = []
        for companies in range(2, 7):
            for turn in range(30):
                seen += self.check(companies, some_calls(source, companies, 50))
        for number in (0, -1, -5):
            self.assertGreater(seen.count(number), 200)

    def test_beside_the_plainer_reckoning(self):
        source = random.Random(3)
        for turn in range(200):
            companies = source.randint(2, 6)
            calls = some_calls(source, companies, 10) + [begin(companies)] + some_calls(source, companies, 200)
            calls += [begin(source.randint(2, 6))] + some_calls(source, companies, 50) + told_all(6)
            plain = PlainBooks()
            self.assertEqual(ask(*calls), [plain.answer(call) for call in calls])


if __name__ == "__main__":
    unittest.main()
