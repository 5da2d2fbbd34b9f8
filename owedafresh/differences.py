"""Differences of shares from the exact ones: how great or small they get, and whether they get ever farther."""

from math import gcd, lcm

from owedafresh.walks import LESS, MORE, are_bounds, best_of, best_walks, first_leads, greatest_totals
from owedafresh.walks import greatest_walk, round_of


def difference_walks(rule, name, sign):
    """Return the starts and ways of walks of which the totals are differences, times the whole weight and the sign."""
    place = rule.place(name)
    weight = rule[name]
    ways = {}
    for state in first_leads(rule.nexts):
        row = rule.cents[state][place]
        gains = [sign * (rule.weight * cents - rest * weight) for rest, cents in enumerate(row)]
        ways[state] = list(zip(gains, rule.nexts[state]))
    return [(0, 0, [])], ways


def fraction(top, bottom):
    """Return a fraction in lowest terms."""
    divisor = gcd(top, bottom)
    return top // divisor, bottom // divisor


def farthest(rule, name, sign):
    """Return the greatest or the least difference of somebody, None if there is none."""
    starts, ways = difference_walks(rule, name, sign)
    walk = greatest_walk(starts, ways)
    return None if walk is None else fraction(sign * walk[0], rule.weight)


def farthest_bills(rule, name, sign):
    """Return bills with the greatest or the least difference of somebody, None if there are none."""
    starts, ways = difference_walks(rule, name, sign)
    walk = greatest_walk(starts, ways)
    return None if walk is None else walk[2]


def endless_round(rule, name, sign):
    """Return a tuple of bills and of a round behind them that makes the difference greater or less, None if none."""
    starts, ways = difference_walks(rule, name, sign)
    _, endless = best_walks(starts, ways)
    return round_of(best_of(endless)) if len(endless) > 0 else None


def greatest(rule, name):
    """Return the greatest difference of somebody over all lists of bills, None if there is none."""
    return farthest(rule, name, MORE)


def lowest(rule, name):
    """Return the least difference of somebody over all lists of bills, None if there is none."""
    return farthest(rule, name, LESS)


def greatest_bills(rule, name):
    """Return a list of bills with the greatest difference of somebody, None if there is none."""
    return farthest_bills(rule, name, MORE)


def lowest_bills(rule, name):
    """Return a list of bills with the least difference of somebody, None if there is none."""
    return farthest_bills(rule, name, LESS)


def growing(rule, name):
    """Return a tuple (lead, round) of bills, of which the round makes the difference greater, None if none does."""
    return endless_round(rule, name, MORE)


def sinking(rule, name):
    """Return a tuple (lead, round) of bills, of which the round makes the difference less, None if none does."""
    return endless_round(rule, name, LESS)


def state_ends(rule, name, sign):
    """Return a dict of the greatest or the least difference with which bills lead to each state, None if none."""
    starts, ways = difference_walks(rule, name, sign)
    totals = greatest_totals(starts, ways)
    return {state: None if total is None else fraction(sign * total, rule.weight) for state, total in totals.items()}


def bounds(rule, name):
    """Return the list of tuples (state, least, greatest) of the differences with which bills lead to each state."""
    low = state_ends(rule, name, LESS)
    high = state_ends(rule, name, MORE)
    return [(state, low[state], high[state]) for state in sorted(low)]


def scaled(end, unit):
    """Return a fraction, perhaps None, in so many parts of one."""
    return None if end is None else end[0] * (unit // end[1])


def judge_bounds(rule, name, told):
    """Tell whether told tuples (state, low, high) show that no bills lead to a state with a difference out of them."""
    starts, ways = difference_walks(rule, name, MORE)
    if sorted([state for state, _, _ in told]) != sorted(ways):
        return False
    # One bottom for all fractions, so that integers tell which of them are greater.
    unit = rule.weight
    for _, low, high in told:
        for end in (low, high):
            unit = unit if end is None else lcm(unit, end[1])
    finer = unit // rule.weight
    ways = {state: [(gain * finer, after) for gain, after in row] for state, row in ways.items()}
    return are_bounds(starts, ways, {state: (scaled(low, unit), scaled(high, unit)) for state, low, high in told})
