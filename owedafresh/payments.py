"""Settling balances with the fewest payments.

People who are joined by payments that settle all balances are a group of which the balances have the sum 0, and it
takes at least one payment less than they are to join them. So many are enough, too: with the most groups, the payments
are the fewest.
"""

from owedafresh.errors import NotEven


def check_even(balances):
    """Raise an error if balances do not have the sum 0."""
    if sum(balances) != 0:
        raise NotEven(sum(balances))


def sums_of_choices(amounts):
    """Return the sum of each choice of amounts; bit by bit, the number of a choice tells which ones it has."""
    sums = [0]
    for amount in amounts:
        sums = sums + [total + amount for total in sums]
    return sums


def ways_out(sums, many):
    """Return for each choice of amounts a tuple (most, place) of the best way to take them away, one by one.

    The most is how often the sum of what is left is 0 ahead of a step, as what is taken away from there to the next
    such sum is a group; the place is that of the amount that is taken away first.
    """
    bits = [(place, 1 << place) for place in range(many)]
    found = [(0, 0)]
    for choice in range(1, len(sums)):
        most, first = max([(found[choice - bit][0], place) for place, bit in bits if choice & bit])
        found.append((most + 1 if sums[choice] == 0 else most, first))
    return found


def groups(balances):
    """Return as many lists of indexes as there can be, each of the sum 0, of all balances that are not 0."""
    check_even(balances)
    indexes = [index for index, amount in enumerate(balances) if amount != 0]
    sums = sums_of_choices([balances[index] for index in indexes])
    ways = ways_out(sums, len(indexes))
    found = []
    choice = len(sums) - 1
    while choice > 0:
        if sums[choice] == 0:
            found.append([])
        _, place = ways[choice]
        found[-1].append(indexes[place])
        choice -= 1 << place
    return found


def fewest(balances):
    """Return the least number of payments that settle balances."""
    found = groups(balances)
    return sum([len(group) for group in found]) - len(found)


def group_payments(balances, group):
    """Return payments that settle a group, one less than it has members, if it cannot be parted into groups."""
    payers = [(index, -balances[index]) for index in group if balances[index] < 0]
    receivers = [(index, balances[index]) for index in group if balances[index] > 0]
    found = []
    while len(payers) > 0:
        payer, debt = payers.pop()
        receiver, claim = receivers.pop()
        amount = min(debt, claim)
        found.append((payer, receiver, amount))
        if debt > amount:
            payers.append((payer, debt - amount))
        if claim > amount:
            receivers.append((receiver, claim - amount))
    return found


def payments(balances):
    """Return a list of tuples (index from, index to, amount) of the fewest payments that settle balances."""
    found = []
    for group in groups(balances):
        found.extend(group_payments(balances, group))
    return found


def is_payment(balances, payer, receiver, amount):
    """Tell whether at least 1 is paid from one index of balances to another one."""
    return 0 <= payer < len(balances) and 0 <= receiver < len(balances) and payer != receiver and amount >= 1


def settles(balances, told):
    """Tell whether told payments settle balances."""
    left = list(balances)
    for payer, receiver, amount in told:
        if not is_payment(balances, payer, receiver, amount):
            return False
        left[payer] += amount
        left[receiver] -= amount
    return not any(left)
