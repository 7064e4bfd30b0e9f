"""A company's account: what it has collected, got and paid."""

FEWEST_COMPANIES = 2
# 2^50: how far from 0 a number of an account may be, and the most units of a payment.
BOUND = 1125899906842624


class Account:
    """A company's numbers. An account is never changed, but another put in its place."""

    def __init__(self, collected, got, paid):
        self.collected = collected
        self.got = got
        # What the company has paid, less what it was paid.
        self.paid = paid

    def position(self):
        # Not kept beside the others, so that it can't differ from what they make it.
        return self.got - self.collected + self.paid

    def four_numbers(self):
        """The account's numbers, in the order in which they're told and saved."""
        return [self.position(), self.collected, self.got, self.paid]

    def with_collected(self, units):
        return Account(self.collected + units, self.got, self.paid)

    def with_got(self, units):
        return Account(self.collected, self.got + units, self.paid)

    def with_paid(self, units):
        return Account(self.collected, self.got, self.paid + units)

    def is_within_bounds(self):
        if self.collected < 0 or self.got < 0:
            return False
        if self.collected > BOUND or self.got > BOUND:
            return False
        return abs(self.position()) <= BOUND and abs(self.paid) <= BOUND
