"""Point [8]: first_unlike and least of the head owedafresh/wholes.py."""

import random
import unittest

from owedafresh import errors
from owedafresh.rules import Rule, by_rows, in_turn
from owedafresh.wholes import first_unlike, least
from tests.helper import (ANN_BOB, ANN_BOB_CY, all_apart, first_rule, long_rule, random_rows, random_states, reached,
                          short_lists, spoil, unchanged_by, with_copies)

EIGHT = [("ann", 1), ("bob", 0), ("cy", 2), ("dee", 1), ("eve", 3), ("fay", 1), ("gus", 0), ("hal", 4)]
FOUR = [("ann", 1), ("bob", 0), ("cy", 2), ("dee", 3)]


def plain_first_unlike(one, other):
    """The first list with unlike shares, by a search over all lists that are long enough."""
    for bills in short_lists(one.weight, len(one) + len(other)):
        if one.shares(bills) != other.shares(bills):
            return bills
    return None


def plain_many(rule):
    """How many states a rule needs: how many ways its states that come about go on."""
    ways = []
    lists = list(short_lists(rule.weight, len(rule)))
    for lead in short_lists(rule.weight, len(rule) - 1):
        ahead = rule.shares(lead)
        way = [[a - b for a, b in zip(rule.shares(lead + bills), ahead)] for bills in lists]
        if way not in ways:
            ways.append(way)
    return len(ways)


def some_rules(source):
    """Rules of two people with a whole weight of 2 that often deal alike in several states."""
    found = []
    for _ in range(40):
        small = Rule(ANN_BOB, random_states(source, ANN_BOB, source.randint(1, 2), 0, 1))
        found += [small, with_copies(source, small, source.randint(2, 4))]
        found.append(late_rule(source, source.randint(2, 5)))
    return found


def late_rule(source, many):
    """A rule of which only the last state deals otherwise than all other ones."""
    states = random_states(source, ANN_BOB, many, 0, 0)
    states[-1][1] = ([1, 0], states[-1][1][1])
    return Rule(ANN_BOB, states)


class TestFirstUnlike(unittest.TestCase):
    def test_rules_that_deal_alike(self):
        source = random.Random(51)
        for _ in range(40):
            rule = Rule(ANN_BOB_CY, random_states(source, ANN_BOB_CY, source.randint(1, 3)))
            self.assertIsNone(first_unlike(rule, rule))
            self.assertIsNone(first_unlike(rule, Rule(rule.people, rule.states)))
            self.assertIsNone(first_unlike(with_copies(source, rule, 6), with_copies(source, rule, 5)))

    def test_the_first_by_length(self):
        first, turn = first_rule(ANN_BOB_CY), in_turn(ANN_BOB_CY)
        self.assertEqual(first_unlike(first, turn), [1, 1])
        one = Rule(ANN_BOB, [[([0, 0], 1), ([1, 0], 1)], [([0, 0], 0), ([1, 0], 0)]])
        other = Rule(ANN_BOB, [[([0, 0], 1), ([1, 0], 1)], [([0, 0], 0), ([0, 1], 0)]])
        self.assertEqual(first_unlike(one, other), [0, 1])
        other = Rule(ANN_BOB, [[([0, 0], 1), ([0, 1], 1)], [([3, -3], 0), ([0, 1], 0)]])
        self.assertEqual(first_unlike(one, other), [1])

    def test_the_first_of_one_length(self):
        people = [("ann", 2), ("bob", 1)]
        one = Rule(people, [[([0, 0], 0), ([1, 0], 0), ([2, 0], 0)]])
        other = Rule(people, [[([0, 0], 0), ([1, 0], 1), ([2, 0], 2)], [([0, 0], 0), ([1, 0], 0), ([1, 1], 0)],
                              [([1, -1], 0), ([1, 0], 0), ([2, 0], 0)]])
        self.assertEqual(first_unlike(one, other), [1, 2])
        other = Rule(people, [[([0, 0], 0), ([1, 0], 2), ([2, 0], 1)], [([0, 0], 0), ([1, 0], 0), ([1, 1], 0)],
                              [([1, -1], 0), ([1, 0], 0), ([2, 0], 0)]])
        self.assertEqual(first_unlike(one, other), [1, 0])

    def test_bills_of_0_count(self):
        people = [("ann", 1), ("bob", 0)]
        late = Rule(people, [[([0, 0], k + 1)] for k in range(5)] + [[([1, -1], 5)]])
        self.assertEqual(first_unlike(late, in_turn(people)), [0] * 6)
        self.assertEqual(first_unlike(in_turn(people), late), [0] * 6)

    def test_states_that_do_not_come_about_do_not_count(self):
        rule = first_rule(ANN_BOB)
        self.assertIsNone(first_unlike(rule, Rule(ANN_BOB, rule.states + [[([5, -5], 0), ([0, 1], 1)]])))

    def test_against_a_plain_search_over_all_short_lists(self):
        source = random.Random(52)
        rules = some_rules(source)
        late = [late_rule(source, 5) for _ in range(60)]
        pairs = [(source.choice(rules), source.choice(rules)) for _ in range(200)]
        pairs += [(source.choice(late), source.choice(late)) for _ in range(200)]
        told = []
        for one, other in pairs:
            expected = plain_first_unlike(one, other)
            told.append(0 if expected is None else len(expected))
            self.assertEqual(first_unlike(one, other), expected)
        self.assertTrue(told.count(0) > 10 and len([many for many in told if many > 3]) > 10)

    def test_against_a_plain_search_with_three_amounts(self):
        source = random.Random(53)
        people = [("ann", 2), ("bob", 1)]
        for _ in range(60):
            small = Rule(people, random_states(source, people, 2, 0, 1))
            one, other = with_copies(source, small, 3), with_copies(source, small, 2)
            states = one.states
            extras = states[source.randrange(3)][source.randrange(1, 3)][0]
            extras[0], extras[1] = extras[0] + 1, extras[1] - 1
            changed = Rule(people, states)
            self.assertEqual(first_unlike(changed, other), plain_first_unlike(changed, other))
            self.assertIsNone(first_unlike(one, other))

    def test_unlike_people(self):
        rule = first_rule(ANN_BOB)
        for people in ([("bob", 1), ("ann", 1)], [("ann", 1), ("cy", 1)], [("ann", 2), ("bob", 0)],
                       [("ann", 1), ("bob", 2)], [("ann", 1), ("bob", 1), ("cy", 0)], [("ann", 2)], EIGHT):
            other = in_turn(people)
            for one, two in ((rule, other), (other, rule)):
                with self.assertRaises(errors.UnlikePeople) as raised:
                    first_unlike(one, two)
                self.assertIs(type(raised.exception), errors.UnlikePeople)
                self.assertIs(type(raised.exception.value), tuple)
                self.assertEqual(raised.exception.value, (one.people, two.people))

    def test_arguments_by_name(self):
        first, turn = first_rule(ANN_BOB), in_turn(ANN_BOB)
        self.assertEqual(first_unlike(other=turn, one=first), [1, 1])
        with self.assertRaises(errors.UnlikePeople) as raised:
            first_unlike(other=turn, one=in_turn(FOUR))
        self.assertEqual(raised.exception.value, (FOUR, ANN_BOB))

    def test_lists_are_new(self):
        first, turn, other = first_rule(ANN_BOB), in_turn(ANN_BOB), in_turn(FOUR)
        told, again = first_unlike(first, turn), first_unlike(first, turn)
        self.assertTrue(all_apart(told, again))
        spoil(told)
        self.assertEqual(first_unlike(first, turn), again)
        with self.assertRaises(errors.UnlikePeople) as raised:
            first_unlike(first, other)
        self.assertTrue(all_apart(raised.exception.value))
        spoil(raised.exception.value)
        self.assertEqual([first.people, other.people], [ANN_BOB, FOUR])

    def test_rules_of_the_greatest_sizes(self):
        source = random.Random(54)
        for _ in range(10):
            rule = Rule(FOUR, random_states(source, FOUR, 3, -16, 16))
            one, other = with_copies(source, rule, 6), with_copies(source, rule, 6)
            self.assertIsNone(first_unlike(one, other))
            states = other.states
            last = reached(other)[-1]
            states[last][5][0][0] += 1
            states[last][5][0][1] -= 1
            changed = Rule(FOUR, states)
            bills = first_unlike(one, changed)
            self.assertEqual(bills, next(each for each in short_lists(6, 6) if one.shares(each) != changed.shares(each)))
        table = by_rows(EIGHT, random_rows(source, EIGHT))
        self.assertIsNone(first_unlike(table, least(table)))
        self.assertEqual(len(first_unlike(in_turn(EIGHT), table)), 1)


class TestLeast(unittest.TestCase):
    def check(self, rule, many):
        told = least(rule)
        self.assertIs(type(told), Rule)
        self.assertEqual(told.people, rule.people)
        self.assertEqual(len(told), many)
        self.assertIsNone(first_unlike(rule, told))
        self.assertEqual(reached(told), list(range(many)))
        self.assertEqual(least(told), told)

    def test_the_numbers_go_state_by_state_and_rest_by_rest(self):
        people = [("ann", 3)]
        only = [[0], [1], [2]]
        # With one of the people alone all states deal alike: only two can tell of numbers.
        self.assertEqual(least(Rule(people, [list(zip(only, (2, 1, 0))), list(zip(only, (1, 1, 2))),
                                             list(zip(only, (0, 2, 1)))])), Rule(people, [list(zip(only, (0, 0, 0)))]))
        people = [("ann", 2), ("bob", 1)]
        states = [
            [([0, 0], 0), ([1, 0], 4), ([2, 0], 2)],
            [([1, -1], 3), ([1, 0], 1), ([2, 0], 0)],
            [([2, -2], 1), ([1, 0], 0), ([2, 0], 3)],
            [([3, -3], 1), ([1, 0], 2), ([2, 0], 4)],
            [([4, -4], 3), ([1, 0], 4), ([2, 0], 1)],
        ]
        # The old states come about in the order 0, 4, 2, 3, 1.
        expected = [
            [([0, 0], 0), ([1, 0], 1), ([2, 0], 2)],
            [([4, -4], 3), ([1, 0], 1), ([2, 0], 4)],
            [([2, -2], 4), ([1, 0], 0), ([2, 0], 3)],
            [([3, -3], 4), ([1, 0], 2), ([2, 0], 1)],
            [([1, -1], 3), ([1, 0], 4), ([2, 0], 0)],
        ]
        self.assertEqual(least(Rule(people, states)), Rule(people, expected))

    def test_states_that_deal_alike_are_one(self):
        self.assertEqual(least(long_rule()), in_turn(ANN_BOB))
        one = Rule(ANN_BOB, [[([0, 0], 1), ([1, 0], 1)], [([0, 0], 0), ([1, 0], 0)]])
        self.assertEqual(least(one), first_rule(ANN_BOB))

    def test_states_that_do_not_come_about_are_left_out(self):
        states = first_rule(ANN_BOB).states + [[([0, 0], 0), ([0, 1], 1)], [([4, -4], 1), ([1, 0], 2)]]
        self.assertEqual(least(Rule(ANN_BOB, states)), first_rule(ANN_BOB))

    def test_a_state_ahead_that_deals_alike_and_does_not_come_about(self):
        states = [[([0, 0], 0), ([1, 0], 2)], [([0, 0], 0), ([0, 1], 2)], [([0, 0], 0), ([0, 1], 1)]]
        states = [states[0], states[1], states[2], [([9, -9], 1), ([1, 0], 0)]]
        told = least(Rule(ANN_BOB, states))
        self.assertEqual(told, Rule(ANN_BOB, [[([0, 0], 0), ([1, 0], 1)], [([0, 0], 0), ([0, 1], 1)]]))

    def test_states_that_only_show_later_that_they_are_unlike(self):
        people = [("ann", 1), ("bob", 0)]
        late = Rule(people, [[([0, 0], k + 1)] for k in range(5)] + [[([1, -1], 5)]])
        self.assertEqual(least(late), late)
        ring = Rule(people, [[([0, 0], (k + 1) % 6)] if k % 3 < 2 else [([1, -1], (k + 1) % 6)] for k in range(6)])
        self.assertEqual(least(ring), Rule(people, ring.states[:2] + [[([1, -1], 0)]]))

    def test_a_least_rule_is_itself(self):
        for people in (ANN_BOB, ANN_BOB_CY, FOUR, EIGHT, [("ann", 1)]):
            first = first_rule([(name, 1) for name, _ in people])
            self.assertEqual(least(first), first)

    def test_against_a_plain_search(self):
        source = random.Random(61)
        told = []
        for rule in some_rules(source):
            many = plain_many(rule)
            told.append(len(rule) - many)
            self.check(rule, many)
        self.assertTrue(told.count(0) > 10 and max(told) > 1)

    def test_rules_that_deal_alike_have_one_least_rule(self):
        source = random.Random(62)
        for _ in range(40):
            people = source.choice([ANN_BOB_CY, FOUR, [("ann", 0), ("bob", 2)]])
            rule = Rule(people, random_states(source, people, source.randint(1, 3)))
            self.assertEqual(least(with_copies(source, rule, 6)), least(rule))

    def test_the_shares_are_the_same_for_all_amounts(self):
        source = random.Random(63)
        for _ in range(40):
            rule = with_copies(source, Rule(ANN_BOB_CY, random_states(source, ANN_BOB_CY, 3)), 6)
            bills = [source.randint(-10000, 10000) for _ in range(40)]
            self.assertEqual(least(rule).shares(bills), rule.shares(bills))

    def test_the_rule_stays_as_it_was(self):
        rule = long_rule()
        self.assertTrue(unchanged_by(least, rule))
        told = least(rule=rule)
        self.assertEqual(rule, long_rule())
        self.assertTrue(all_apart(told.states, rule.states, least(rule).states))

    def test_rules_of_the_greatest_sizes(self):
        source = random.Random(64)
        for _ in range(10):
            rule = Rule(FOUR, random_states(source, FOUR, 6, -16, 16))
            told = least(rule)
            self.assertEqual([len(told), reached(told)], [len(reached(rule)), list(range(len(told)))])
            self.assertIsNone(first_unlike(rule, told))
        self.assertEqual(least(in_turn(EIGHT)), in_turn(EIGHT))
        table = by_rows(EIGHT, random_rows(source, EIGHT))
        self.assertEqual(least(table), table)


if __name__ == "__main__":
    unittest.main()
