"""Points [2] to [5] and the class Rule of the head owedafresh/rules.py."""

import copy
import random
import unittest
from unittest import mock

from owedafresh import errors
from owedafresh.rules import Rule, by_rows, in_turn
from tests.helper import (ANN_BOB, ANN_BOB_CY, all_apart, first_rule, plain_shares, random_states, short_lists, spoil,
                          unchanged_by)

FIRST_TWO = [[([0, 0], 0), ([1, 0], 0)]]
ODD = [[([0, 0], 0), ([1, 0], 1)], [([0, 0], 0), ([0, 1], 1)]]


class TestErrorsOfPeople(unittest.TestCase):
    def wrong(self, people, kind, value):
        """Each function that takes people raises this error, whatever is wrong behind the people."""
        for states in (FIRST_TWO, [], [[]]):
            with self.assertRaises(errors.BillError) as raised:
                Rule(people, states)
            self.assertIs(type(raised.exception), kind)
            self.assertEqual(raised.exception.value, value)
        for rows in ([[0, 0], [1, 0]], [], [[5]]):
            with self.assertRaises(errors.BillError) as raised:
                by_rows(people, rows)
            self.assertIs(type(raised.exception), kind)
            self.assertEqual(raised.exception.value, value)
        with self.assertRaises(errors.BillError) as raised:
            in_turn(people)
        self.assertIs(type(raised.exception), kind)
        self.assertEqual(raised.exception.value, value)

    def test_names_that_are_none(self):
        for name in ("", " ", "Ann", "ANN", "ann ", " ann", "an n", "a1", "1", "a-b", "a_b", "abcdefghi", "`", "{",
                     "a`", "z{", "@", "[", "a=1", "z" * 9, "a" * 200):
            self.wrong([(name, 1), ("bob", 1)], errors.InvalidName, name)
            self.wrong([("bob", 1), (name, 1)], errors.InvalidName, name)

    def test_names_that_are_names(self):
        for name in ("a", "z", "ann", "abcdefgh", "zzzzzzzz", "stuvwxyz", "ijklmnop", "qr"):
            self.assertEqual(Rule([(name, 1)], [[([0], 0)]]).people, [(name, 1)])

    def test_double_names(self):
        self.wrong([("ann", 1), ("ann", 1)], errors.DoubleName, "ann")
        self.wrong([("ann", 1), ("bob", 1), ("ann", 0)], errors.DoubleName, "ann")
        self.wrong([("ann", 1), ("bob", 1), ("bob", 0), ("ann", 1)], errors.DoubleName, "bob")

    def test_weights_that_are_negative(self):
        self.wrong([("ann", -1), ("bob", 3)], errors.InvalidWeight, -1)
        self.wrong([("ann", 3), ("bob", -2)], errors.InvalidWeight, -2)
        self.wrong([("ann", 1), ("bob", -1)], errors.InvalidWeight, -1)

    def test_no_weight(self):
        self.wrong([], errors.NoWeight, 0)
        self.wrong([("ann", 0)], errors.NoWeight, 0)
        self.wrong([("ann", 0), ("bob", 0)], errors.NoWeight, 0)

    def test_the_order_for_one_of_the_people(self):
        self.wrong([("ann", 1), ("Ann", -1)], errors.InvalidName, "Ann")
        self.wrong([("Ann", 1), ("Ann", -1)], errors.InvalidName, "Ann")
        self.wrong([("ann", 1), ("ann", -1)], errors.DoubleName, "ann")
        self.wrong([("ann", 0), ("ann", 0)], errors.DoubleName, "ann")

    def test_the_people_come_one_after_the_other(self):
        self.wrong([("ann", -1), ("ann", 1)], errors.InvalidWeight, -1)
        self.wrong([("ann", -1), ("Bob", 1)], errors.InvalidWeight, -1)
        self.wrong([("ann", 1), ("ann", 1), ("Bob", 1)], errors.DoubleName, "ann")
        self.wrong([("ann", 1), ("ann", 1), ("bob", -1)], errors.DoubleName, "ann")
        self.wrong([("Bob", 1), ("Ann", 1)], errors.InvalidName, "Bob")
        self.wrong([("ann", -1), ("bob", -2)], errors.InvalidWeight, -1)

    def test_no_weight_comes_behind_all_people(self):
        self.wrong([("ann", 1), ("bob", -1)], errors.InvalidWeight, -1)
        self.wrong([("ann", 0), ("Bob", 0)], errors.InvalidName, "Bob")
        self.wrong([("ann", 0), ("ann", 0)], errors.DoubleName, "ann")


class TestErrorsOfStates(unittest.TestCase):
    def wrong(self, people, states, kind, value):
        with self.assertRaises(errors.BillError) as raised:
            Rule(people, states)
        self.assertIs(type(raised.exception), kind)
        self.assertEqual(raised.exception.value, value)
        self.assertIs(type(raised.exception.value), type(value))

    def wrong_row(self, states, value, people=ANN_BOB):
        self.wrong(people, states, errors.InvalidRow, value)

    def test_no_state(self):
        self.wrong(ANN_BOB, [], errors.InvalidState, 0)
        self.wrong([("ann", 5)], [], errors.InvalidState, 0)

    def test_a_tuple_that_lacks(self):
        self.wrong_row([[]], (0, 0))
        self.wrong_row([[([0, 0], 0)]], (0, 1))
        self.wrong_row([ODD[0], []], (1, 0))
        self.wrong_row([ODD[0], ODD[1][:1]], (1, 1))

    def test_extras_that_are_not_as_many_as_the_people(self):
        self.wrong_row([[([0], 0), ([1, 0], 0)]], (0, 0))
        self.wrong_row([[([], 0), ([1, 0], 0)]], (0, 0))
        self.wrong_row([[([0, 0, 0], 0), ([1, 0], 0)]], (0, 0))
        self.wrong_row([[([0, 0], 0), ([1], 0)]], (0, 1))
        self.wrong_row([[([0, 0], 0), ([1, 0, 0], 0)]], (0, 1))
        self.wrong_row([ODD[0], [([0, 0], 0), ([1], 0)]], (1, 1))

    def test_extras_that_have_another_sum(self):
        self.wrong_row([[([0, 1], 0), ([1, 0], 0)]], (0, 0))
        self.wrong_row([[([0, 0], 0), ([1, 1], 0)]], (0, 1))
        self.wrong_row([[([0, 0], 0), ([0, 0], 0)]], (0, 1))
        self.wrong_row([[([0, 0], 0), ([-1, 0], 0)]], (0, 1))
        self.wrong_row([ODD[0], [([1, 0], 0), ([0, 1], 0)]], (1, 0))
        self.wrong_row([ODD[0], [([0, 0], 0), ([2, 0], 0)]], (1, 1))

    def test_the_rest_0_of_state_0_deals_nothing(self):
        self.wrong_row([[([1, -1], 0), ([1, 0], 0)]], (0, 0))
        self.wrong_row([[([-50, 50], 0), ([1, 0], 0)]], (0, 0))

    def test_the_rest_0_of_other_states_may_deal(self):
        rule = Rule(ANN_BOB, [ODD[0], [([3, -3], 0), ([0, 1], 1)]])
        self.assertEqual(rule.shares([1, 0]), [4, -3])

    def test_other_rests_of_state_0_may_deal_anything_of_their_sum(self):
        rule = Rule(ANN_BOB, [[([0, 0], 0), ([-49, 50], 0)]])
        self.assertEqual(rule.shares([1]), [-49, 50])

    def test_a_next_state_that_is_none(self):
        for after in (-1, 1, 2, -2):
            self.wrong_row([[([0, 0], after), ([1, 0], 0)]], (0, 0))
            self.wrong_row([[([0, 0], 0), ([1, 0], after)]], (0, 1))
        for after in (-1, 2, 3, -2):
            self.wrong_row([ODD[0], [([0, 0], 1), ([1, 0], after)]], (1, 1))

    def test_more_tuples(self):
        self.wrong_row([FIRST_TWO[0] + [([2, 0], 0)]], (0, 2))
        self.wrong_row([FIRST_TWO[0] + [([2, 0], 0), ([3, 0], 0)]], (0, 2))
        self.wrong_row([ODD[0], ODD[1] + [([1, 1], 0)]], (1, 2))
        self.wrong_row([FIRST_TWO[0] + [([], 9)]], (0, 2))

    def test_the_first_wrong_rest_counts(self):
        self.wrong_row([[([0, 1], 0), ([1, 1], 0)]], (0, 0))
        self.wrong_row([[([0], 0)]], (0, 0))
        self.wrong_row([[([0, 0], 7), ([1, 1], 0), ([2, 0], 0)]], (0, 0))
        self.wrong_row([[([0, 0], 0), ([1, 1], 0), ([2, 0], 0)]], (0, 1))

    def test_the_first_wrong_state_counts(self):
        self.wrong_row([ODD[0] + [([1, 1], 0)], [([0, 1], 0)]], (0, 2))
        self.wrong_row([ODD[0][:1], []], (0, 1))
        self.wrong_row([ODD[0], ODD[1][:1], []], (1, 1))
        self.wrong_row([ODD[0], ODD[1] + [([1, 1], 0)], []], (1, 2))

    def test_the_rest_0_of_state_0(self):
        one, cy = [("ann", 1), ("bob", 0)], [("ann", 1), ("bob", 0), ("cy", 0)]
        self.wrong(one, [[([1, -1], 0)]], errors.InvalidRow, (0, 0))
        self.wrong(cy, [[([0, 1, -1], 0)]], errors.InvalidRow, (0, 0))
        self.wrong(cy, [[([1, -1, 0], 0)], []], errors.InvalidRow, (0, 0))
        self.wrong(one, [[], [([0, 0], 0)]], errors.InvalidRow, (0, 0))
        self.wrong(one, [[([1, -1], 0), ([0, 0], 0)], []], errors.InvalidRow, (0, 0))
        self.wrong(ANN_BOB, [[([1, -1], 0)]], errors.InvalidRow, (0, 0))
        self.assertEqual(Rule(one, [[([0, 0], 1)], [([1, -1], 0)]]).shares([0, 0]), [1, -1])

    def test_the_order_of_all(self):
        self.wrong([("Ann", 0)], [], errors.InvalidName, "Ann")
        self.wrong([("ann", 0)], [], errors.NoWeight, 0)
        self.wrong([("ann", 0)], [[]], errors.NoWeight, 0)
        self.wrong([("ann", -1)], [], errors.InvalidWeight, -1)
        self.wrong(ANN_BOB, [], errors.InvalidState, 0)

    def test_an_error_tells_of_the_whole_weight_and_not_of_the_number_of_people(self):
        rows = [([0, 0], 0), ([1, 0], 0), ([1, 1], 0)]
        self.wrong([("ann", 2), ("bob", 2)], [rows], errors.InvalidRow, (0, 3))
        self.wrong([("ann", 3), ("bob", 0)], [rows + [([2, 1], 0)]], errors.InvalidRow, (0, 3))

    def test_a_rule_does_not_change_if_another_one_raises(self):
        states = copy.deepcopy(ODD)
        rule = Rule(ANN_BOB, states)
        states[0].append(([1, 1], 0))
        with self.assertRaises(errors.InvalidRow):
            Rule(ANN_BOB, states)
        self.assertEqual(rule, Rule(ANN_BOB, ODD))


class TestRule(unittest.TestCase):
    def test_the_examples_of_the_document(self):
        first = Rule(ANN_BOB_CY, [[([0, 0, 0], 0), ([1, 0, 0], 0), ([1, 1, 0], 0)]])
        self.assertEqual(first.shares([100, 100]), [68, 66, 66])
        self.assertEqual(first.weight, 3)
        self.assertEqual(first["cy"], 1)
        self.assertEqual(first.shares([-1]), [0, 0, -1])

    def test_people_states_weight_and_length(self):
        people = [("ann", 2), ("bob", 0), ("cy", 1)]
        states = [[([0, 0, 0], 1), ([0, 1, 0], 0), ([2, 2, -2], 1)], [([1, 1, -2], 0), ([0, 0, 1], 1), ([0, 0, 2], 1)]]
        rule = Rule(people, states)
        self.assertEqual(rule.people, people)
        self.assertEqual(rule.states, states)
        self.assertEqual(rule.weight, 3)
        self.assertEqual(len(rule), 2)
        self.assertEqual([rule["ann"], rule["bob"], rule["cy"]], [2, 0, 1])
        self.assertIs(type(rule.people[0]), tuple)
        self.assertIs(type(rule.states[0][0]), tuple)

    def test_arguments_by_name(self):
        rule = Rule(states=FIRST_TWO, people=ANN_BOB)
        self.assertEqual(rule, Rule(ANN_BOB, FIRST_TWO))
        self.assertEqual(rule.shares(bills=[3]), [2, 1])
        self.assertEqual(rule.state(bills=[3]), 0)

    def test_names_of_nobody(self):
        rule = Rule(ANN_BOB, FIRST_TWO)
        for name in ("cy", "", "Ann", "an", "annn", "ann ", "0", "a b ~"):
            with self.assertRaises(errors.UnknownPerson) as raised:
                rule[name]
            self.assertIs(type(raised.exception), errors.UnknownPerson)
            self.assertEqual(raised.exception.value, name)

    def test_the_quotient_goes_by_weights_and_the_rest_by_extras(self):
        people = [("ann", 3), ("bob", 1), ("cy", 0)]
        rule = Rule(people, [[([0, 0, 0], 0), ([0, 0, 1], 0), ([5, -5, 2], 0), ([1, 1, 1], 0)]])
        self.assertEqual(rule.shares([0]), [0, 0, 0])
        self.assertEqual(rule.shares([4]), [3, 1, 0])
        self.assertEqual(rule.shares([9]), [6, 2, 1])
        self.assertEqual(rule.shares([2]), [5, -5, 2])
        self.assertEqual(rule.shares([-1]), [-2, 0, 1])
        self.assertEqual(rule.shares([-2]), [2, -6, 2])
        self.assertEqual(rule.shares([-4]), [-3, -1, 0])
        self.assertEqual(rule.shares([-10000]), [-7500, -2500, 0])
        self.assertEqual(rule.shares([9999]), [7498, 2500, 1])

    def test_no_bills(self):
        rule = Rule(ANN_BOB, ODD)
        self.assertEqual(rule.shares([]), [0, 0])
        self.assertEqual(rule.state([]), 0)

    def test_states_go_by_the_rest_alone(self):
        rule = Rule(ANN_BOB, ODD)
        self.assertEqual([rule.state([k]) for k in (-3, -2, -1, 0, 1, 2, 3)], [1, 0, 1, 0, 1, 0, 1])
        self.assertEqual(rule.shares([1, 1]), [1, 1])
        self.assertEqual(rule.shares([1, 1, 1]), [1, 2])
        self.assertEqual(rule.shares([1, 0, 1]), [2, 0])
        self.assertEqual(rule.state([1, 1, 0]), 0)

    def test_a_bill_of_0_may_move_and_deal(self):
        rule = Rule(ANN_BOB, [[([0, 0], 1), ([1, 0], 0)], [([2, -2], 0), ([0, 1], 0)]])
        self.assertEqual([rule.shares([0] * k) for k in range(4)], [[0, 0], [0, 0], [2, -2], [2, -2]])
        self.assertEqual([rule.state([0] * k) for k in range(4)], [0, 1, 0, 1])

    def test_one_of_the_people_alone(self):
        rule = Rule([("ann", 1)], [[([0], 0)]])
        self.assertEqual([rule.shares([7, -3]), rule.weight, len(rule)], [[4], 1, 1])
        heavy = Rule([("ann", 3)], [[([0], 0), ([1], 0), ([2], 0)]])
        self.assertEqual([heavy.shares([7, -3, 2]), heavy.weight, heavy["ann"]], [[6], 3, 3])

    def test_weights_of_0(self):
        rule = Rule([("ann", 0), ("bob", 1)], [[([0, 0], 1)], [([4, -4], 1)]])
        self.assertEqual(rule.weight, 1)
        self.assertEqual(rule.shares([10]), [0, 10])
        self.assertEqual(rule.shares([10, 10]), [4, 16])
        self.assertEqual(rule["ann"], 0)

    def test_shares_have_the_sum_of_the_bills(self):
        source = random.Random(3)
        for _ in range(100):
            people = [("ann", source.randrange(3)), ("bob", source.randrange(1, 4)), ("cy", source.randrange(2))]
            rule = Rule(people, random_states(source, people, source.randint(1, 6), -50, 50))
            bills = [source.randint(-10000, 10000) for _ in range(source.randint(0, 40))]
            self.assertEqual(sum(rule.shares(bills)), sum(bills))

    def test_shares_and_states_against_a_plain_search(self):
        source = random.Random(5)
        for _ in range(60):
            people = [("ann", source.randrange(3)), ("bob", source.randrange(1, 3))]
            states = random_states(source, people, source.randint(1, 4))
            rule = Rule(people, states)
            for bills in short_lists(rule.weight, 3):
                self.assertEqual((rule.shares(bills), rule.state(bills)), plain_shares(people, states, bills))
            bills = [source.randint(-300, 300) for _ in range(12)]
            self.assertEqual((rule.shares(bills), rule.state(bills)), plain_shares(people, states, bills))


class TestEquality(unittest.TestCase):
    def test_equal_rules(self):
        self.assertTrue(Rule(ANN_BOB, ODD) == Rule(list(ANN_BOB), copy.deepcopy(ODD)))
        self.assertFalse(Rule(ANN_BOB, ODD) != Rule(list(ANN_BOB), copy.deepcopy(ODD)))
        rule = Rule(ANN_BOB, ODD)
        self.assertTrue(rule == rule)

    def test_unlike_rules(self):
        rule = Rule(ANN_BOB, ODD)
        others = [
            Rule([("bob", 1), ("ann", 1)], ODD),
            Rule([("ann", 1), ("cy", 1)], ODD),
            Rule([("ann", 2), ("bob", 0)], ODD),
            Rule([("ann", 0), ("bob", 2)], ODD),
            Rule(ANN_BOB, FIRST_TWO),
            Rule(ANN_BOB, ODD + [ODD[1]]),
            Rule(ANN_BOB, [ODD[0], [([0, 0], 0), ([0, 1], 0)]]),
            Rule(ANN_BOB, [ODD[0], [([0, 0], 0), ([1, 0], 1)]]),
            Rule(ANN_BOB, [ODD[0], [([1, -1], 0), ([0, 1], 1)]]),
        ]
        for other in others:
            self.assertFalse(rule == other)
            self.assertTrue(rule != other)
            self.assertFalse(other == rule)

    def test_rules_that_deal_alike_and_are_not_equal(self):
        one = Rule(ANN_BOB, FIRST_TWO)
        other = Rule(ANN_BOB, [[([0, 0], 1), ([1, 0], 0)], [([0, 0], 0), ([1, 0], 1)]])
        self.assertFalse(one == other)

    def test_a_rule_beside_something_else(self):
        rule = Rule(ANN_BOB, ODD)
        for other in (None, 0, 2, True, "rule", ODD, ANN_BOB, (ANN_BOB, ODD), [rule], {}, object(), Rule, mock.ANY,
                      errors.BillError(1)):
            self.assertFalse(rule == other)
            self.assertTrue(rule != other)
        self.assertIs(rule == 5, False)
        self.assertIs(rule == Rule(ANN_BOB, ODD), True)


class TestNothingIsKept(unittest.TestCase):
    def test_lists_that_are_changed_behind_the_call(self):
        people, states = list(ANN_BOB), copy.deepcopy(ODD)
        rule = Rule(people, states)
        people.append(("cy", 1))
        states[0][1][0][0] = 9
        states[1].pop()
        states.append([])
        self.assertEqual(rule, Rule(ANN_BOB, ODD))
        self.assertEqual(rule.people, ANN_BOB)
        self.assertEqual(rule.states, ODD)
        self.assertEqual(rule.shares([1, 1]), [1, 1])

    def test_returned_lists_that_are_changed(self):
        rule = Rule(ANN_BOB, ODD)
        for value in (rule.people, rule.states, rule.shares([1, 2]), rule.shares([])):
            spoil(value)
        self.assertEqual(rule.people, ANN_BOB)
        self.assertEqual(rule.states, ODD)
        self.assertEqual([rule.shares([1, 2]), rule.shares([])], [[2, 1], [0, 0]])
        self.assertEqual(len(rule), 2)

    def test_each_list_stands_in_one_place_alone(self):
        extras = [0, 0]
        row = [(extras, 0), ([1, 0], 0)]
        states = [row, row]
        rule = Rule(ANN_BOB, states)
        self.assertEqual(rule.states, [[([0, 0], 0), ([1, 0], 0)], [([0, 0], 0), ([1, 0], 0)]])
        self.assertTrue(all_apart(rule.states, rule.states, rule.people, rule.people, states[:1]))
        self.assertTrue(all_apart(rule.shares([]), rule.shares([]), rule.states))

    def test_the_same_list_of_bills_asked_again(self):
        rule = Rule(ANN_BOB, ODD)
        bills = [1]
        told = [(rule.shares(bills), rule.state(bills))]
        bills.append(1)
        told.append((rule.shares(bills), rule.state(bills)))
        bills[0] = 2
        told.append((rule.shares(bills), rule.state(bills)))
        bills.clear()
        told.append((rule.shares(bills), rule.state(bills)))
        self.assertEqual(told, [([1, 0], 1), ([1, 1], 1), ([2, 1], 1), ([0, 0], 0)])

    def test_arguments_stay_as_they_were(self):
        rule = Rule(ANN_BOB, ODD)
        self.assertTrue(unchanged_by(Rule, list(ANN_BOB), copy.deepcopy(ODD)))
        self.assertTrue(unchanged_by(Rule, list(ANN_BOB), copy.deepcopy(ODD) + [[]]))
        self.assertTrue(unchanged_by(Rule, [("ann", 0)], []))
        self.assertTrue(unchanged_by(rule.shares, [3, -1, 0]))
        self.assertTrue(unchanged_by(rule.state, [3, -1, 0]))
        self.assertEqual(rule, Rule(ANN_BOB, ODD))


class TestGreatestRules(unittest.TestCase):
    PEOPLE = [("ann", 1), ("bob", 0), ("cy", 2), ("dee", 1), ("eve", 3), ("fay", 1), ("gus", 0), ("hal", 4)]

    def test_a_rule_of_the_greatest_size(self):
        source = random.Random(8)
        states = random_states(source, self.PEOPLE, 12, -17, 17)
        self.assertTrue(all(-120 <= cent <= 120 for row in states for extras, _ in row for cent in extras))
        rule = Rule(self.PEOPLE, states)
        self.assertEqual([rule.weight, len(rule), rule.people, rule.states], [12, 12, self.PEOPLE, states])
        bills = [source.choice([-10000, 10000, source.randint(-10000, 10000)]) for _ in range(40)]
        self.assertEqual((rule.shares(bills), rule.state(bills)), plain_shares(self.PEOPLE, states, bills))

    def test_the_greatest_extra_cents(self):
        people = [("ann", 6), ("bob", 6)]
        states = [[([120, rest - 120], 11) for rest in range(12)] for _ in range(12)]
        states[0][0] = ([0, 0], 11)
        rule = Rule(people, states)
        self.assertEqual(rule.shares([10000] * 40), [40 * (833 * 6 + 120), 40 * (833 * 6 + 4 - 120)])
        self.assertEqual(rule.shares([11] * 40), [4800, 40 * 11 - 4800])

    def test_first_rules(self):
        rule = first_rule(self.PEOPLE)
        self.assertEqual(rule.shares([11]), [2, 2, 2, 1, 1, 1, 1, 1])


if __name__ == "__main__":
    unittest.main()
