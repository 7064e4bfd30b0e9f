"""The settlement told: of all with the fewest payments, and of these with the least sum, the first.

It is looked for among the payments in turn: the payers in some order and the owed in some order, the first payer
paying the first that is owed until one of the two is even and gives way to the next. Whatever the orders, these
payments are a settlement, and one with the least sum, as nobody pays who is owed and nobody is paid who isn't.

Whatever can be the settlement told is among them. With the least sum only payers pay, and only to the owed. With the
fewest payments there's no ring of them: units taken and added by turns around it would bring one of them to 0, and
spare it. So the payments make trees, and a tree of at most 6 companies is a path with single companies beside it
(any other has at least 7). Gone along the path, each single company in its turn, it is paid in turn.
"""


def settlement(positions):
    """The payments, by from, then by to: from, to and units of each."""
    companies = list(range(len(positions)))
    payers = [company for company in companies if positions[company] < 0]
    owed = [company for company in companies if positions[company] > 0]
    orders_of_owed = orders(owed)
    found = []
    for payers_order in orders(payers):
        for owed_order in orders_of_owed:
            found.append(paid_in_turn(positions, payers_order, owed_order))
    return min(found, key=rank)


def orders(companies):
    """All orders of the companies: for none of them the empty one."""
    found = [[]]
    for company in companies:
        longer = []
        for order in found:
            for place in range(len(order) + 1):
                longer.append(order[:place] + [company] + order[place:])
        found = longer
    return found


def paid_in_turn(positions, payers, owed):
    left = list(positions)
    payments = []
    turn = 0
    for payer in payers:
        # The positions come to 0 together, so somebody is owed as long as somebody has to pay.
        while left[payer] < 0:
            to = owed[turn]
            units = min(-left[payer], left[to])
            payments.append((payer, to, units))
            left[payer] = left[payer] + units
            left[to] = left[to] - units
            if left[to] == 0:
                turn = turn + 1
    return sorted(payments)


def rank(payments):
    # The sum isn't asked here: it's the least in all payments in turn.
    return (len(payments), payments)


def most_groups(positions):
    """How many groups, each of which comes to 0, the positions that aren't 0 make at most."""
    uneven = [position for position in positions if position != 0]
    if len(uneven) == 0:
        return 0
    most = 1
    for parting in partings(uneven[1:]):
        # The first position's group: the others go on in groups of their own, which come to 0 if this does.
        if uneven[0] + sum(parting[0]) == 0:
            most = max(most, 1 + most_groups(parting[1]))
    return most


def partings(values):
    """All ways to part the values into two lists."""
    found = [([], [])]
    for value in values:
        longer = []
        for parting in found:
            longer.append((parting[0] + [value], parting[1]))
            longer.append((parting[0], parting[1] + [value]))
        found = longer
    return found
