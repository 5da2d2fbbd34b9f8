"""Whole rules, whose shares hang on the sum of all bills alone, and rules that deal alike."""

from owedafresh.errors import NotWhole, UnlikePeople
from owedafresh.rules import Rule


def first_bills(whole, is_sought, place):
    """Return the first list of bills, by length, then as lists, that is sought; None if there is none.

    Bills go from 0 to one less than the whole weight. Of two lists with the same place, neither of
    them sought, the same bills behind both must lead to the same place again, and to one that is
    sought for both or for neither: so only the first list with each place is made longer.
    """
    found = {place([]): True}
    leads = [[]]
    at = 0
    while at < len(leads):
        for amount in range(whole):
            bills = leads[at] + [amount]
            if is_sought(bills):
                return bills
            reached = place(bills)
            if reached not in found:
                found[reached] = True
                leads.append(bills)
        at += 1
    return None


def unlike(rule):
    """Return a tuple of two lists of bills with the same sum and unlike shares, None if there are none."""
    # All lists with one sum have like shares exactly if each has those of its sum as the only bill.
    def is_odd(bills):
        return rule.shares(bills) != rule.shares([sum(bills)])

    def place(bills):
        return rule.state(bills), sum(bills) % rule.weight

    bills = first_bills(rule.weight, is_odd, place)
    if bills is None:
        return None
    return bills, [sum(bills)]


def is_whole(rule):
    """Tell whether any two lists of bills with the same sum have the same shares."""
    return unlike(rule) is None


def rows_of_rests(rule):
    """Return the shares of each rest as the only bill, which are the table if the rule is whole."""
    return [rule.shares([rest]) for rest in range(rule.weight)]


def rows(rule):
    """Return the rows of the table of a whole rule, one for each rest."""
    lists = unlike(rule)
    if lists is not None:
        raise NotWhole(lists)
    return rows_of_rests(rule)


def judge(rule, told):
    """Tell whether a rule is whole and told rows are those of its table."""
    return is_whole(rule) and told == rows_of_rests(rule)


def first_unlike(one, other):
    """Return the first list of bills of which two rules have unlike shares, None if there is none."""
    if one.people != other.people:
        raise UnlikePeople((one.people, other.people))

    def is_odd(bills):
        return one.shares(bills) != other.shares(bills)

    def place(bills):
        return one.state(bills), other.state(bills)

    return first_bills(one.weight, is_odd, place)


def first_alikes(states):
    """Return for each state the first one that deals alike, whatever bills follow."""
    marks = [0 for _ in states]
    while True:
        looks = [[(extras, marks[after]) for extras, after in row] for row in states]
        finer = [looks.index(look) for look in looks]
        if finer == marks:
            return marks
        marks = finer


def least(rule):
    """Return the rule with the fewest states that has the same shares for all lists of bills."""
    states = rule.states
    marks = first_alikes(states)
    order = [marks[0]]
    at = 0
    while at < len(order):
        row = states[order[at]]
        for _, after in row:
            if marks[after] not in order:
                order.append(marks[after])
        at += 1
    return Rule(rule.people, [[(extras, order.index(marks[after])) for extras, after in states[k]] for k in order])
