"""Whole rules, whose shares hang on the sum of all bills alone, and rules that deal alike."""

from owedafresh.errors import NotWhole, UnlikePeople
from owedafresh.rules import Rule, rows_of, table_cents, table_nexts
from owedafresh.walks import first_leads


def first_other(cents, others):
    """Return the first rest of which two states deal other extra cents."""
    return [one == other for one, other in zip(rows_of(cents), rows_of(others))].index(False)


def first_apart(cents, nexts, others, ways):
    """Return the first list of bills, by length, then as lists, of which two rules have unlike shares, None if none.

    The rules are given by their extra cents and next states: cents and nexts, others and ways. Two states to which a
    list leads are of one kind from then on, and a list that leads to two of one kind is not made longer: bills that
    are dealt otherwise behind it are so behind an earlier list, one of those that made them one kind.
    """
    many = len(cents)
    # The kinds of the states of both rules, those of the other one behind, and the states of each kind.
    kinds = list(range(many)) + [0] + list(range(many + 1, many + len(others)))
    members = [[state] for state in range(many + len(others))]
    members[0] = [0, many]
    leads = [([], 0, 0)]
    at = 0
    while at < len(leads):
        bills, state, twin = leads[at]
        if cents[state] != others[twin]:
            return bills + [first_other(cents[state], others[twin])]
        for amount, (after, beyond) in enumerate(zip(nexts[state], ways[twin])):
            one, other = kinds[after], kinds[many + beyond]
            if one != other:
                for member in members[other]:
                    kinds[member] = one
                members[one] = members[one] + members[other]
                leads.append((bills + [amount], after, beyond))
        at += 1
    return None


def unlike(rule):
    """Return a tuple of two lists of bills with the same sum and unlike shares, None if there are none."""
    # All lists with one sum have like shares exactly if the rule deals as that of the table of its rests does,
    # which deals each list as its sum; and this, as the only bill, is what the rule itself has in the table.
    weights = [weight for _, weight in rule.people]
    # The last one of the people bears what all others leave of a bill, so that the others tell all.
    cents = [columns[:-1] for columns in rule.cents]
    table = table_cents(weights[:-1], cents[0], rule.weight)
    bills = first_apart(cents, rule.nexts, table, table_nexts(rule.weight))
    if bills is None:
        return None
    return bills, [sum(bills)]


def is_whole(rule):
    """Tell whether any two lists of bills with the same sum have the same shares."""
    return unlike(rule) is None


def rows_of_rests(rule):
    """Return the shares of each rest as the only bill, which are the table if the rule is whole."""
    return rows_of(rule.cents[0])


def rows(rule):
    """Return the rows of the table of a whole rule, one for each rest."""
    lists = unlike(rule)
    if lists is not None:
        raise NotWhole(lists)
    return rows_of_rests(rule)


def judge(rule, told):
    """Tell whether a rule is whole and told rows are those of its table."""
    return told == rows_of_rests(rule) and is_whole(rule)


def first_unlike(one, other):
    """Return the first list of bills of which two rules have unlike shares, None if there is none."""
    if one.people != other.people:
        raise UnlikePeople((one.people, other.people))
    return first_apart(one.cents, one.nexts, other.cents, other.nexts)


def first_alikes(rule):
    """Return for each state the first one that deals alike, whatever bills follow."""
    marks = [rule.cents.index(cents) for cents in rule.cents]
    while True:
        looks = [[mark] + [marks[after] for after in row] for mark, row in zip(marks, rule.nexts)]
        finer = [looks.index(look) for look in looks]
        if finer == marks:
            return marks
        marks = finer


def least(rule):
    """Return the rule with the fewest states that has the same shares for all lists of bills."""
    marks = first_alikes(rule)
    nexts = [[marks[after] for after in row] for row in rule.nexts]
    order = list(first_leads(nexts))
    # Rules never change, so that one that is its own least rule need not be made again.
    if order == list(range(len(rule))):
        return rule
    numbers = {state: number for number, state in enumerate(order)}
    states = []
    for state in order:
        states.append(list(zip(rows_of(rule.cents[state]), [numbers[after] for after in nexts[state]])))
    return Rule(rule.people, states)
