"""How long calls take on rules and balances of the greatest sizes."""

import random
import unittest

from owedafresh.changes import changes, judge_changes, lowered, pairs
from owedafresh.differences import (bounds, greatest, greatest_bills, growing, judge_bounds, lowest, lowest_bills,
                                    sinking)
from owedafresh.payments import fewest, groups, payments, settles
from owedafresh.rules import Rule, by_rows, in_turn
from tests.helper import random_rows, random_states, seconds

FOUR = [("a", 2), ("b", 1), ("c", 2), ("d", 1)]
EIGHT = [("a", 2), ("b", 1), ("c", 2), ("d", 1), ("e", 2), ("f", 2), ("g", 1), ("h", 1)]


def ring(people, many):
    """A rule of which each state leads to the next one, the last one back to the first, ever farther."""
    whole = sum(weight for _, weight in people)
    states = [[([rest - state * 3, state] + [0] * (len(people) - 3) + [state * 2], (state + 1) % many)
               for rest in range(whole)] for state in range(many)]
    states[0][0] = ([0] * len(people), 1)
    states[1][1] = (states[1][1][0], 1)
    return Rule(people, states)


class TestGreatestSizes(unittest.TestCase):
    LONGEST = 0.03

    def check(self, rule):
        for name, _ in rule.people:
            for function in (greatest, lowest, greatest_bills, lowest_bills, growing, sinking, bounds, changes,
                             lowered):
                self.assertLess(seconds(function, rule, name), self.LONGEST, function)
            ends = bounds(rule, name)
            for told in (ends, [(state, None, None) for state, _, _ in ends], (ends * 60)[:60], [
                    (state, (-20000 - state, 19999 - state), (20000, 19937 - state)) for state, _, _ in ends]):
                self.assertLess(seconds(judge_bounds, rule, name, told), self.LONGEST)
            places = pairs(rule)
            for told in ([pair + (None, None) for pair in places], [pair + (-20000, 20000) for pair in places],
                         ([pair + (None, None) for pair in places] * 60)[:60]):
                self.assertLess(seconds(judge_changes, rule, name, told), self.LONGEST)
        self.assertLess(seconds(pairs, rule), self.LONGEST)

    def test_differences_and_changes(self):
        source = random.Random(111)
        for low, high in ((-16, 16), (0, 1), (-50, 50), (0, 0)):
            self.check(Rule(FOUR, random_states(source, FOUR, 6, low, high)))
        self.check(ring(FOUR, 6))
        self.check(by_rows(FOUR, random_rows(source, FOUR, -16, 16)))

    def test_returned_rules_of_greater_sizes(self):
        self.check(in_turn(EIGHT))
        self.check(by_rows(EIGHT, random_rows(random.Random(112), EIGHT, -17, 17)))

    def test_payments(self):
        source = random.Random(113)
        for _ in range(5):
            balances = [source.randint(-1400, 1400) for _ in range(7)]
            balances.append(-sum(balances))
            for function in (fewest, groups, payments):
                self.assertLess(seconds(function, balances), self.LONGEST)
            self.assertLess(seconds(settles, balances, payments(balances) + [(0, 1, 20000), (1, 0, 20000)] * 26),
                            self.LONGEST)


if __name__ == "__main__":
    unittest.main()
