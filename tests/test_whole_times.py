"""How long calls of the head owedafresh/wholes.py take on rules of the greatest sizes."""

import unittest

from owedafresh.rules import Rule, in_turn
from owedafresh.wholes import first_unlike, is_whole, judge, least, rows, unlike
from tests.helper import seconds

FOUR = [("a", 2), ("b", 1), ("c", 2), ("d", 1)]
EIGHT = [("a", 2), ("b", 1), ("c", 2), ("d", 1), ("e", 2), ("f", 2), ("g", 1), ("h", 1)]


class TestWholes(unittest.TestCase):
    """Whole rules are asked often: their calls are held against so many calls of a method for one list of bills."""

    def setUp(self):
        self.rule = in_turn(EIGHT)
        self.unit = seconds(lambda: [self.rule.shares([1, 2]) for _ in range(100)]) / 100

    def check(self, most, function, *args):
        self.assertLess(seconds(lambda: [function(*args) for _ in range(10)]) / 10, most * self.unit, function)

    def test_a_rule_of_the_greatest_size(self):
        rule = self.rule
        self.check(120, is_whole, rule)
        self.check(120, unlike, rule)
        self.check(120, rows, rule)
        self.check(60, first_unlike, rule, rule)
        self.check(50, least, rule)

    def test_judging_rows(self):
        right = rows(self.rule)
        self.check(120, judge, self.rule, right)
        self.check(20, judge, self.rule, [])
        wrong = right[:11] + [[2, 1, 2, 1, 2, 2, 0, 2]]
        self.check(20, judge, self.rule, wrong)

    def test_two_rules_that_come_to_many_pairs_of_states(self):
        one = Rule(FOUR, [[([m, 0, 0, 0], (k * 5 + m) % 6) for m in range(6)] for k in range(6)])
        other = Rule(FOUR, [[([m, 0, 0, 0], (k + 5 * m) % 6) for m in range(6)] for k in range(6)])
        self.assertIsNone(first_unlike(one, other))
        self.check(60, first_unlike, one, other)


if __name__ == "__main__":
    unittest.main()
