"""What several tests share: rules to ask, and plain searches to hold answers against."""

import copy
from itertools import product

from owedafresh.rules import Rule

ANN_BOB = [("ann", 1), ("bob", 1)]
ANN_BOB_CY = [("ann", 1), ("bob", 1), ("cy", 1)]


def first_rule(people):
    """The rule of one state for which each extra cent goes to the first ones, whatever their weights."""
    whole = sum(weight for _, weight in people)
    rows = []
    for rest in range(whole):
        extras = [0] * len(people)
        for cent in range(rest):
            extras[cent % len(people)] += 1
        rows.append((extras, 0))
    return Rule(people, [rows])


def long_rule():
    """The whole rule of the document that has one state too many."""
    return Rule(ANN_BOB, [[([0, 0], 1), ([1, 0], 2)], [([0, 0], 0), ([1, 0], 2)], [([0, 0], 2), ([0, 1], 1)]])


def short_lists(whole, most):
    """All lists of bills from 0 to one less than the whole weight, by length, then as lists."""
    for many in range(most + 1):
        for bills in product(range(whole), repeat=many):
            yield list(bills)


def plain_shares(people, states, bills):
    """The shares and the state behind a list of bills, cent by cent out of the words of point [5]."""
    whole = sum(weight for _, weight in people)
    state, shares = 0, [0] * len(people)
    for amount in bills:
        rest = amount
        quotient = 0
        while rest < 0:
            rest, quotient = rest + whole, quotient - 1
        while rest >= whole:
            rest, quotient = rest - whole, quotient + 1
        extras, after = states[state][rest]
        shares = [shares[k] + quotient * people[k][1] + extras[k] for k in range(len(people))]
        state = after
    return shares, state


def random_extras(random, many, rest, low, high):
    """Extra cents of which the sum is the rest, all but the last one from low to high."""
    extras = [random.randint(low, high) for _ in range(many - 1)]
    return extras + [rest - sum(extras)]


def random_states(random, people, many, low=-1, high=2):
    """States of a rule of these people, at random."""
    whole = sum(weight for _, weight in people)
    states = []
    for state in range(many):
        row = []
        for rest in range(whole):
            extras = random_extras(random, len(people), rest, low, high)
            if state == 0 and rest == 0:
                extras = [0] * len(people)
            row.append((extras, random.randrange(many)))
        states.append(row)
    return states


def random_rows(random, people, low=-3, high=3):
    """Rows of a table of these people, at random."""
    whole = sum(weight for _, weight in people)
    rows = [random_extras(random, len(people), rest, low, high) for rest in range(whole)]
    return [[0] * len(people)] + rows[1:]


def with_copies(random, rule, many):
    """A rule that deals alike and has so many states, each one of the old ones at least once, the rest copies."""
    old = rule.states
    others = list(range(1, len(old))) + [random.randrange(len(old)) for _ in range(many - len(old))]
    random.shuffle(others)
    kinds = [0] + others
    places = {kind: [at for at, one in enumerate(kinds) if one == kind] for kind in kinds}
    states = [[(list(extras), random.choice(places[after])) for extras, after in old[kind]] for kind in kinds]
    return Rule(rule.people, states)


def reached(rule):
    """The states that come about, in the order in which they first do, state by state, rest by rest."""
    states = rule.states
    order = [0]
    for state in order:
        for _, after in states[state]:
            if after not in order:
                order.append(after)
    return order


def lists_in(value):
    """All lists in a value of lists and tuples, however deep."""
    found = [value] if isinstance(value, list) else []
    if isinstance(value, (list, tuple)):
        for item in value:
            found += lists_in(item)
    return found


def all_apart(*values):
    """Whether each list in these values stands in one place alone."""
    found = [each for value in values for each in lists_in(value)]
    return len({id(each) for each in found}) == len(found)


def spoil(value):
    """Change every list in a value."""
    for each in lists_in(value):
        each.append(7)
        each.reverse()


def unchanged_by(call, *args):
    """Whether a call leaves its arguments as they were, whether it raises or not."""
    before = copy.deepcopy(args)
    try:
        call(*args)
    except ValueError:
        pass
    return args == before
