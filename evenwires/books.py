"""The books: the companies' accounts, and what each call makes of them.

Each call on the books gives back its answer as a list: 0 and what it tells, or a refusal alone.
"""

from evenwires.accounts import BOUND, FEWEST_COMPANIES, Account
from evenwires.settling import most_groups, settlement
from evenwires.shares import MOST_COMPANIES, can_be_shared, companies_of, shared, weights_of
from evenwires.storage import loaded_accounts, saved_bytes

WRONG = -1
NOT_RIGHT_BYTES = -4
TOO_FAR = -5


class Books:
    def __init__(self):
        # No account means no books: begun or loaded, there are at least two.
        self.accounts = []

    def are_there(self):
        return len(self.accounts) > 0

    def has_company(self, company):
        return company < len(self.accounts)

    def begin(self, companies):
        if companies < FEWEST_COMPANIES or companies > MOST_COMPANIES:
            return [WRONG]
        self.accounts = [Account(0, 0, 0) for company in range(companies)]
        return [0]

    def book(self, by, charge, row):
        if not can_be_shared(charge, row) or not self.has_company(by):
            return [WRONG]
        companies = companies_of(row)
        for company in companies:
            if not self.has_company(company):
                return [WRONG]
        accounts = list(self.accounts)
        accounts[by] = accounts[by].with_collected(charge)
        for company, units in zip(companies, shared(charge, weights_of(row))):
            accounts[company] = accounts[company].with_got(units)
        return self.take_over(accounts)

    def pay(self, start, to, units):
        if not self.has_company(start) or not self.has_company(to) or start == to:
            return [WRONG]
        if units < 1 or units > BOUND:
            return [WRONG]
        accounts = list(self.accounts)
        accounts[start] = accounts[start].with_paid(units)
        accounts[to] = accounts[to].with_paid(-units)
        return self.take_over(accounts)

    def take_over(self, accounts):
        # Bounds are asked of the accounts as they would be, so a refusal has changed nothing yet.
        for account in accounts:
            if not account.is_within_bounds():
                return [TOO_FAR]
        self.accounts = accounts
        return [0]

    def told(self, company):
        if not self.has_company(company):
            return [WRONG]
        return [0] + self.accounts[company].four_numbers()

    def positions(self):
        return [account.position() for account in self.accounts]

    def settle(self):
        numbers = []
        for payment in settlement(self.positions()):
            numbers.extend(payment)
        return [0, len(numbers)] + numbers

    def least(self):
        positions = self.positions()
        return [0, len(settlement(positions)), most_groups(positions)]

    def save(self):
        saved = saved_bytes(self.accounts)
        return [0, len(saved)] + saved

    def load(self, saved):
        accounts = loaded_accounts(saved)
        if accounts is None:
            return [NOT_RIGHT_BYTES]
        self.accounts = accounts
        return [0]
