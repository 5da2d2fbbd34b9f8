"""What several tests share: rules to ask, and plain searches to hold answers against."""

import copy
import time
from fractions import Fraction
from itertools import product

from owedafresh.rules import Rule, by_rows

ANN_BOB = [("ann", 1), ("bob", 1)]
ANN_BOB_CY = [("ann", 1), ("bob", 1), ("cy", 1)]


def first_rule(people):
    """The rule of one state for which each extra cent goes to the first ones, whatever their weights."""
    whole = sum(weight for _, weight in people)
    rows = []
    for rest in range(whole):
        extras = [0] * len(people)
        for cent in range(rest):
            extras[cent % len(people)] += 1
        rows.append((extras, 0))
    return Rule(people, [rows])


def long_rule():
    """The whole rule of the document that has one state too many."""
    return Rule(ANN_BOB, [[([0, 0], 1), ([1, 0], 2)], [([0, 0], 0), ([1, 0], 2)], [([0, 0], 2), ([0, 1], 1)]])


def short_lists(whole, most):
    """All lists of bills from 0 to one less than the whole weight, by length, then as lists."""
    for many in range(most + 1):
        for bills in product(range(whole), repeat=many):
            yield list(bills)


def plain_shares(people, states, bills):
    """The shares and the state behind a list of bills, cent by cent out of the words of point [5]."""
    whole = sum(weight for _, weight in people)
    state, shares = 0, [0] * len(people)
    for amount in bills:
        rest = amount
        quotient = 0
        while rest < 0:
            rest, quotient = rest + whole, quotient - 1
        while rest >= whole:
            rest, quotient = rest - whole, quotient + 1
        extras, after = states[state][rest]
        shares = [shares[k] + quotient * people[k][1] + extras[k] for k in range(len(people))]
        state = after
    return shares, state


def random_extras(random, many, rest, low, high):
    """Extra cents of which the sum is the rest, all but the last one from low to high."""
    extras = [random.randint(low, high) for _ in range(many - 1)]
    return extras + [rest - sum(extras)]


def random_states(random, people, many, low=-1, high=2):
    """States of a rule of these people, at random."""
    whole = sum(weight for _, weight in people)
    states = []
    for state in range(many):
        row = []
        for rest in range(whole):
            extras = random_extras(random, len(people), rest, low, high)
            if state == 0 and rest == 0:
                extras = [0] * len(people)
            row.append((extras, random.randrange(many)))
        states.append(row)
    return states


def random_rows(random, people, low=-3, high=3):
    """Rows of a table of these people, at random."""
    whole = sum(weight for _, weight in people)
    rows = [random_extras(random, len(people), rest, low, high) for rest in range(whole)]
    return [[0] * len(people)] + rows[1:]


def with_copies(random, rule, many):
    """A rule that deals alike and has so many states, each one of the old ones at least once, the rest copies."""
    old = rule.states
    others = list(range(1, len(old))) + [random.randrange(len(old)) for _ in range(many - len(old))]
    random.shuffle(others)
    kinds = [0] + others
    places = {kind: [at for at, one in enumerate(kinds) if one == kind] for kind in kinds}
    states = [[(list(extras), random.choice(places[after])) for extras, after in old[kind]] for kind in kinds]
    return Rule(rule.people, states)


def reached(rule):
    """The states that come about, in the order in which they first do, state by state, rest by rest."""
    states = rule.states
    order = [0]
    for state in order:
        for _, after in states[state]:
            if after not in order:
                order.append(after)
    return order


def some_small_rules(source, many):
    """Rules of up to three people, with a whole weight of up to 3 and up to 4 states, and tables among them."""
    found = []
    while len(found) < many:
        people = source.choice([ANN_BOB, ANN_BOB_CY, [("ann", 2), ("bob", 1)], [("ann", 1), ("bob", 0)],
                                [("ann", 0), ("bob", 2)], [("ann", 1), ("bob", 1), ("cy", 0)]])
        found.append(Rule(people, random_states(source, people, source.randint(1, 4), -1, source.randint(0, 2))))
        table = by_rows(people, random_rows(source, people, -1, 2))
        if len(table) > 1:
            found.append(with_copies(source, table, source.randint(len(table), 4)))
    return found


def difference(rule, name, bills):
    """The difference of somebody, as point [6] tells."""
    place = [known for known, _ in rule.people].index(name)
    shares, _ = plain_shares(rule.people, rule.states, bills)
    return shares[place] - Fraction(sum(bills) * rule.people[place][1], rule.weight)


def as_told(value):
    """A fraction, perhaps None, as the program tells it."""
    return None if value is None else (value.numerator, value.denominator)


def told_value(told):
    """The fraction that the program tells, perhaps None."""
    return None if told is None else Fraction(*told)


def plain_walk(gains, nexts, state, bills):
    """What bills from a state on add to a total, and the state behind them."""
    total = 0
    for rest in bills:
        total, state = total + gains[state][rest], nexts[state][rest]
    return total, state


def plain_bounds(rule, name):
    """The bounds of somebody, None where there are none, by a search over all lists of as many bills as states."""
    lists = list(short_lists(rule.weight, len(rule)))
    place, states = [known for known, _ in rule.people].index(name), rule.states
    # Times the whole weight, so that they are integers.
    gains = [[extras[place] * rule.weight - rest * rule[name] for rest, (extras, _) in enumerate(row)]
             for row in states]
    nexts = [[after for _, after in row] for row in states]
    told, endless = {}, {1: set(), -1: set()}
    for bills in lists:
        total, state = plain_walk(gains, nexts, 0, bills)
        told.setdefault(state, []).append(Fraction(total, rule.weight))
    for state in told:
        walks = [plain_walk(gains, nexts, state, bills) for bills in lists]
        for sign in (1, -1):
            if any(after == state and sign * total > 0 for total, after in walks):
                endless[sign].update(after for _, after in walks)
    lows = {state: None if state in endless[-1] else min(told[state]) for state in told}
    highs = {state: None if state in endless[1] else max(told[state]) for state in told}
    return [(state, lows[state], highs[state]) for state in sorted(told)]


def lists_in(value):
    """All lists in a value of lists and tuples, however deep."""
    found = [value] if isinstance(value, list) else []
    if isinstance(value, (list, tuple)):
        for item in value:
            found += lists_in(item)
    return found


def all_apart(*values):
    """Whether each list in these values stands in one place alone."""
    found = [each for value in values for each in lists_in(value)]
    return len({id(each) for each in found}) == len(found)


def spoil(value):
    """Change every list in a value."""
    for each in lists_in(value):
        each.append(7)
        each.reverse()


def unchanged_by(call, *args):
    """Whether a call leaves its arguments as they were, whether it raises or not."""
    before = copy.deepcopy(args)
    try:
        call(*args)
    except ValueError:
        pass
    return args == before


def seconds(function, *args):
    """How long a call takes, the least of five times."""
    taken = []
    for _ in range(5):
        start = time.perf_counter()
        function(*args)
        taken.append(time.perf_counter() - start)
    return min(taken)


class PlainLedger:
    """A ledger that keeps its deeds alone, and works everything out of them again, as the document tells it."""

    def __init__(self, rule, is_beside):
        self.people, self.states, self.is_beside = rule.people, rule.states, is_beside
        self.deeds = []

    def written(self):
        """The bills, as tuples (who paid, amount, the index of the bill whose difference it is), and the payments."""
        bills, payments = [], []
        for kind, one, two, three in self.deeds:
            if kind == "bill":
                bills.append((one, two, None))
            elif kind == "pay":
                payments.append((one, two, three))
            elif self.is_beside:
                counted = bills[one][1] + sum(amount for _, amount, target in bills if target == one)
                bills.append((bills[one][0], two - counted, one))
            else:
                bills[one] = (bills[one][0], two, None)
        return bills, payments

    def bills(self):
        return [amount for _, amount, _ in self.written()[0]]

    def shares(self):
        return plain_shares(self.people, self.states, self.bills())[0]

    def balances(self):
        bills, payments = self.written()
        found = dict(zip([name for name, _ in self.people], [-share for share in self.shares()]))
        for name, amount, _ in bills:
            found[name] += amount
        for name, other, amount in payments:
            found[name] += amount
            found[other] -= amount
        return list(found.values())

    def do(self, deed):
        """Write a deed, and return the list of the changes of the shares."""
        before = self.shares()
        self.deeds.append(deed)
        return [after - share for share, after in zip(before, self.shares())]


def do_deed(ledger, deed):
    """Make a ledger write a deed, and return what it tells."""
    kind, one, two, three = deed
    if kind == "bill":
        return ledger(one, two)
    return ledger.correct(one, two) if kind == "correct" else ledger.pay(one, two, three)


def random_deed(source, rule, bills, most):
    """A deed for a ledger with so many bills, of an amount from the negative of the most to the most."""
    names = [name for name, _ in rule.people]
    kind = source.choice(["bill", "correct", "correct", "pay"] if bills > 0 else ["bill", "pay"])
    amount = source.choice([0, source.randint(-most, most), source.randint(-most, most)])
    if kind == "bill":
        return kind, source.choice(names), amount, None
    if kind == "correct":
        return kind, source.randrange(bills), amount, None
    return kind, source.choice(names), source.choice(names), amount


def what_it_tells(ledger):
    """Everything that a ledger tells without a change."""
    return ledger.bills, ledger.shares(), ledger.balances(), len(ledger)
