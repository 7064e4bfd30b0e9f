"""The books: what each company has collected, got and paid.

Each call on the books gives back its answer as a list: 0 and what it tells, or a refusal alone.
"""

from evenwires.shares import MOST_COMPANIES, can_be_shared, companies_of, shared, weights_of

FEWEST_COMPANIES = 2
# 2^50: how far from 0 a number of the books may be, and the most units of a payment.
BOUND = 1125899906842624

WRONG = -1
TOO_FAR = -5


class Account:
    """A company's numbers. An account is never changed, but another put in its place."""

    def __init__(self, collected, got, paid):
        self.collected = collected
        self.got = got
        # What the company has paid, less what it was paid.
        self.paid = paid

    def position(self):
        # Not kept beside the others, so that it can't differ from what they make it.
        return self.got - self.collected + self.paid

    def with_collected(self, units):
        return Account(self.collected + units, self.got, self.paid)

    def with_got(self, units):
        return Account(self.collected, self.got + units, self.paid)

    def with_paid(self, units):
        return Account(self.collected, self.got, self.paid + units)

    def is_within_bounds(self):
        if self.collected > BOUND or self.got > BOUND:
            return False
        return abs(self.position()) <= BOUND and abs(self.paid) <= BOUND


class Books:
    def __init__(self):
        # No account means no books: begun, there are at least two.
        self.accounts = []

    def are_begun(self):
        return len(self.accounts) > 0

    def has_company(self, company):
        return company < len(self.accounts)

    def begin(self, companies):
        if companies < FEWEST_COMPANIES or companies > MOST_COMPANIES:
            return [WRONG]
        self.accounts = [Account(0, 0, 0) for company in range(companies)]
        return [0]

    def book(self, by, charge, row):
        if not can_be_shared(charge, row) or not self.has_company(by):
            return [WRONG]
        companies = companies_of(row)
        for company in companies:
            if not self.has_company(company):
                return [WRONG]
        accounts = list(self.accounts)
        accounts[by] = accounts[by].with_collected(charge)
        for company, units in zip(companies, shared(charge, weights_of(row))):
            accounts[company] = accounts[company].with_got(units)
        return self.take_over(accounts)

    def pay(self, start, to, units):
        if not self.has_company(start) or not self.has_company(to) or start == to:
            return [WRONG]
        if units < 1 or units > BOUND:
            return [WRONG]
        accounts = list(self.accounts)
        accounts[start] = accounts[start].with_paid(units)
        accounts[to] = accounts[to].with_paid(-units)
        return self.take_over(accounts)

    def take_over(self, accounts):
        # Bounds are asked of the accounts as they would be, so a refusal has changed nothing yet.
        for account in accounts:
            if not account.is_within_bounds():
                return [TOO_FAR]
        self.accounts = accounts
        return [0]

    def told(self, company):
        if not self.has_company(company):
            return [WRONG]
        account = self.accounts[company]
        return [0, account.position(), account.collected, account.got, account.paid]
