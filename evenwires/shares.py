"""How a charge is shared out among the companies of a row.

A row is one list: company, weight, company, weight and so on.
"""

# 2^40
MOST_CHARGE = 1099511627776
MOST_COMPANIES = 6
MOST_WEIGHT = 65535


def companies_of(row):
    return [row[k] for k in range(0, len(row), 2)]


def weights_of(row):
    return [row[k] for k in range(1, len(row), 2)]


def can_be_shared(charge, row):
    if charge > MOST_CHARGE:
        return False
    # The length comes first: companies and weights are told apart only in an even row.
    if len(row) % 2 != 0 or len(row) == 0 or len(row) > 2 * MOST_COMPANIES:
        return False
    return are_companies(companies_of(row)) and are_weights(weights_of(row))


def are_companies(companies):
    seen = []
    for company in companies:
        if company >= MOST_COMPANIES or company in seen:
            return False
        seen.append(company)
    return True


def are_weights(weights):
    for weight in weights:
        if weight < 1 or weight > MOST_WEIGHT:
            return False
    return True


def shared(charge, weights):
    """The shares of a charge, in the order of the weights."""
    together = sum(weights)
    whole_parts = [charge * weight // together for weight in weights]
    rests = [charge * weight % together for weight in weights]
    left_over = charge - sum(whole_parts)
    units = []
    for place, whole_part in enumerate(whole_parts):
        # A unit each, so whoever has fewer ahead than there are units left over gets one.
        if how_many_ahead(rests, place) < left_over:
            units.append(whole_part + 1)
        else:
            units.append(whole_part)
    return units


def how_many_ahead(rests, place):
    ahead = 0
    for other, rest in enumerate(rests):
        if rest > rests[place] or (rest == rests[place] and other < place):
            ahead = ahead + 1
    return ahead
