"""The books' bytes: written from the accounts, and read back."""

from evenwires.accounts import FEWEST_COMPANIES, Account
from evenwires.shares import MOST_COMPANIES

MARK = (67, 66, 65, 49)
# Behind the mark stands how many companies there are; the first account follows.
PLACE_OF_COMPANIES = 4
FIRST_ACCOUNT = 5
NUMBER_LENGTH = 8
ACCOUNT_LENGTH = 32
SUM_LENGTH = 4
SUM_MODULUS = 65521
# 2^63 and 2^64: numbers of 8 bytes from the one on stand for those that are the other less.
LEAST_BELOW_0 = 9223372036854775808
ALL_NUMBERS = 18446744073709551616


def saved_bytes(accounts):
    saved = list(MARK) + [len(accounts)]
    for account in accounts:
        for number in account.four_numbers():
            saved.extend(lowest_first(number, NUMBER_LENGTH))
    return saved + lowest_first(sum(saved) % SUM_MODULUS, SUM_LENGTH)


def lowest_first(number, length):
    lowest = []
    left = number
    for place in range(length):
        lowest.append(left % 256)
        # Rounded down below 0 too, which is what makes two's complement.
        left = left // 256
    return lowest


def loaded_accounts(saved):
    """The accounts that these bytes are of, or None if they're no right books' bytes."""
    if not has_right_length(saved):
        return None
    accounts = [account_at(saved, company) for company in range(saved[PLACE_OF_COMPANIES])]
    if not are_right(accounts):
        return None
    # Mark, positions and sum are set by the rest: they're right if they would be written so.
    if saved_bytes(accounts) != saved:
        return None
    return accounts


def has_right_length(saved):
    if len(saved) < FIRST_ACCOUNT:
        return False
    companies = saved[PLACE_OF_COMPANIES]
    if companies < FEWEST_COMPANIES or companies > MOST_COMPANIES:
        return False
    return len(saved) == FIRST_ACCOUNT + companies * ACCOUNT_LENGTH + SUM_LENGTH


def account_at(saved, company):
    # The position comes first and is passed over: an account makes it of the other three.
    first = FIRST_ACCOUNT + company * ACCOUNT_LENGTH + NUMBER_LENGTH
    collected = number_at(saved, first)
    got = number_at(saved, first + NUMBER_LENGTH)
    paid = number_at(saved, first + 2 * NUMBER_LENGTH)
    return Account(collected, got, paid)


def number_at(saved, first):
    number = 0
    for byte in reversed(saved[first:first + NUMBER_LENGTH]):
        number = number * 256 + byte
    if number >= LEAST_BELOW_0:
        return number - ALL_NUMBERS
    return number


def are_right(accounts):
    for account in accounts:
        if not account.is_within_bounds():
            return False
    if sum([account.paid for account in accounts]) != 0:
        return False
    return sum([account.collected for account in accounts]) == sum([account.got for account in accounts])
