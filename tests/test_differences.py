"""Points [6] and [9]: greatest and least differences, and rounds, of the head owedafresh/differences.py."""

import random
import unittest
from fractions import Fraction

from owedafresh import errors
from owedafresh.differences import (bounds, greatest, greatest_bills, growing, judge_bounds, lowest, lowest_bills,
                                    sinking)
from owedafresh.rules import Rule, by_rows, in_turn
from tests.helper import (ANN_BOB, ANN_BOB_CY, all_apart, as_told, difference, first_rule, plain_bounds, random_rows,
                          random_states, reached, some_small_rules, spoil, told_value, unchanged_by)

FOUR = [("ann", 1), ("bob", 0), ("cy", 2), ("dee", 3)]
# Ann's difference grows in state 1, and bob's in state 2; state 3 does not come about.
BOTH = [[([0, 0], 1), ([1, 0], 2)], [([0, 0], 1), ([1, 0], 1)], [([0, 0], 2), ([0, 1], 2)],
        [([5, -5], 3), ([9, -8], 0)]]


def names(rule):
    return [name for name, _ in rule.people]


class TestExamples(unittest.TestCase):
    def test_the_examples_of_the_document(self):
        first, turn = Rule(ANN_BOB, [[([0, 0], 0), ([1, 0], 0)]]), in_turn(ANN_BOB)
        self.assertEqual(
            [greatest(turn, "ann"), lowest(turn, "ann"), bounds(turn, "ann"), greatest(first, "ann"),
             lowest(first, "ann"), bounds(first, "bob"), sinking(first, "ann")],
            [(1, 2), (0, 1), [(0, (0, 1), (0, 1)), (1, (1, 2), (1, 2))], None, (0, 1), [(0, None, (0, 1))], None])
        lead, turning = growing(first, "ann")
        bills = greatest_bills(turn, "ann")
        self.assertEqual(
            [first.state(lead) == first.state(lead + turning),
             judge_bounds(turn, "ann", [(1, (0, 1), (1, 1)), (0, (-1, 2), (1, 2))]),
             judge_bounds(turn, "ann", [(0, (0, 1), (0, 1)), (1, (0, 1), (1, 2))]),
             turn.shares(bills)[0] * 2 - sum(bills)],
            [True, True, False, 1])


class TestFarthest(unittest.TestCase):
    def check(self, rule, name, low, high):
        """Hold what is told of somebody against their least and greatest difference, None if there is none."""
        for value, told, bills in ((low, lowest(rule, name), lowest_bills(rule, name)),
                                   (high, greatest(rule, name), greatest_bills(rule, name))):
            self.assertEqual(told, as_told(value))
            if value is None:
                self.assertIsNone(bills)
            else:
                self.assertIs(type(told), tuple)
                self.assertEqual([type(part) for part in told], [int, int])
                self.assertIs(type(bills), list)
                self.assertTrue(len(bills) <= len(rule) and all(type(bill) is int for bill in bills))
                self.assertEqual(difference(rule, name, bills), value)
        self.check_round(rule, name, high, growing(rule, name), 1)
        self.check_round(rule, name, low, sinking(rule, name), -1)

    def check_round(self, rule, name, end, told, sign):
        if end is not None:
            self.assertIsNone(told)
            return
        self.assertIs(type(told), tuple)
        lead, turning = told
        self.assertEqual([type(lead), type(turning)], [list, list])
        self.assertTrue(all(type(bill) is int for bill in lead + turning))
        for times in range(4):
            ahead = lead + turning * times
            self.assertEqual(rule.state(ahead), rule.state(ahead + turning))
            more = difference(rule, name, ahead + turning) - difference(rule, name, ahead)
            self.assertGreater(sign * more, 0)

    def test_rules_without_memory(self):
        first = first_rule(ANN_BOB_CY)
        self.check(first, "ann", Fraction(0), None)
        self.check(first, "bob", None, None)
        self.check(first, "cy", None, Fraction(0))
        fair = Rule([("ann", 1), ("bob", 0)], [[([0, 0], 0)]])
        self.check(fair, "ann", Fraction(0), Fraction(0))
        self.check(fair, "bob", Fraction(0), Fraction(0))

    def test_one_of_the_people_alone_has_no_difference(self):
        source = random.Random(71)
        for weight in (1, 2, 5):
            people = [("ann", weight)]
            self.check(Rule(people, random_states(source, people, 4)), "ann", Fraction(0), Fraction(0))

    def test_somebody_with_the_weight_0(self):
        rule = Rule([("ann", 0), ("bob", 2)], [[([0, 0], 1), ([3, -2], 1)], [([-1, 1], 0), ([-1, 2], 0)]])
        self.check(rule, "ann", None, None)
        self.check(rule, "bob", None, None)
        rule = Rule([("ann", 0), ("bob", 2)], [[([0, 0], 1), ([3, -2], 1)], [([0, 0], 0), ([-3, 4], 1)]])
        self.check(rule, "ann", None, None)
        rule = Rule([("ann", 0), ("bob", 2)], [[([0, 0], 1), ([3, -2], 1)], [([-1, 1], 1), ([-3, 4], 1)]])
        self.check(rule, "ann", None, Fraction(3))
        self.check(rule, "bob", Fraction(-3), None)

    def test_tables(self):
        source = random.Random(72)
        for _ in range(40):
            people = source.choice([ANN_BOB, ANN_BOB_CY, FOUR])
            table = random_rows(source, people, -50, 50)
            rule = by_rows(people, table)
            for place, (name, weight) in enumerate(people):
                values = [row[place] - Fraction(rest * weight, rule.weight) for rest, row in enumerate(table)]
                self.check(rule, name, min(values), max(values))
                self.assertEqual(bounds(rule, name), [(rest, as_told(value), as_told(value))
                                                      for rest, value in enumerate(values)])

    def test_in_turn(self):
        turn = in_turn(ANN_BOB_CY)
        self.check(turn, "ann", Fraction(0), Fraction(2, 3))
        self.check(turn, "bob", Fraction(-1, 3), Fraction(1, 3))
        self.check(turn, "cy", Fraction(-2, 3), Fraction(0))

    def test_fractions_in_lowest_terms(self):
        people = [("ann", 3), ("bob", 3)]
        rule = by_rows(people, [[0, 0], [1, 0], [1, 1], [-1, 4], [2, 2], [3, 2]])
        self.assertEqual([greatest(rule, "ann"), lowest(rule, "ann")], [(1, 2), (-5, 2)])
        self.assertEqual(bounds(rule, "ann")[2], (2, (0, 1), (0, 1)))
        self.assertEqual([greatest(rule, "bob"), lowest(rule, "bob")], [(5, 2), (-1, 2)])
        whole = Rule([("ann", 1), ("bob", 1)], [[([0, 0], 1), ([1, 0], 1)], [([-3, 3], 2), ([1, 0], 2)],
                                                [([0, 0], 2), ([1, 0], 3)], [([0, 0], 3), ([0, 1], 2)]])
        self.assertEqual(lowest(whole, "ann"), (-3, 1))

    def test_states_that_do_not_come_about_do_not_count(self):
        wild = [([9, -9], 1), ([-7, 8], 0)]
        rule = Rule(ANN_BOB, [[([0, 0], 0), ([1, 0], 2)], wild, [([0, 0], 2), ([0, 1], 0)]])
        self.check(rule, "ann", Fraction(0), Fraction(1, 2))
        self.check(rule, "bob", Fraction(-1, 2), Fraction(0))
        self.assertEqual(bounds(rule, "ann"), [(0, (0, 1), (0, 1)), (2, (1, 2), (1, 2))])

    def test_rounds_for_two_different_people(self):
        rule = Rule(ANN_BOB, BOTH)
        for name in ("ann", "bob"):
            self.check(rule, name, None, None)
        self.assertEqual(bounds(rule, "ann"), [(0, (0, 1), (0, 1)), (1, (0, 1), None), (2, None, (1, 2))])
        self.assertEqual(bounds(rule, "bob"), [(0, (0, 1), (0, 1)), (1, None, (0, 1)), (2, (-1, 2), None)])

    def test_a_round_of_several_bills(self):
        states = [[([0, 0], 1), ([1, 0], 0)], [([2, -2], 2), ([0, 1], 1)], [([-2, 2], 1), ([1, 0], 2)]]
        rule = Rule(ANN_BOB, states)
        self.check(rule, "ann", None, None)
        states[0][1], states[1][1], states[2][1] = ([1, 0], 1), ([0, 1], 2), ([1, 0], 1)
        self.check(Rule(ANN_BOB, states), "ann", None, None)
        states[1][0], states[2][1] = ([0, 0], 2), ([0, 1], 1)
        self.check(Rule(ANN_BOB, states), "bob", Fraction(-1, 2), None)

    def test_bills_of_0_alone_make_a_round(self):
        people = [("ann", 1), ("bob", 0)]
        rule = Rule(people, [[([0, 0], 1)], [([1, -1], 2)], [([1, -1], 1)]])
        self.check(rule, "ann", Fraction(0), None)
        self.check(rule, "bob", None, Fraction(0))
        back = Rule(people, [[([0, 0], 1)], [([1, -1], 2)], [([-1, 1], 1)]])
        self.check(back, "ann", Fraction(0), Fraction(1))

    def test_the_farthest_needs_as_many_bills_as_other_states(self):
        people = [("ann", 1), ("bob", 0)]
        states = [[([0, 0], 1)]] + [[([1, -1], k + 1)] for k in range(1, 5)] + [[([0, 0], 5)]]
        rule = Rule(people, states)
        self.check(rule, "ann", Fraction(0), Fraction(4))
        self.assertEqual(greatest_bills(rule, "ann"), [0] * 5)
        states[5] = [([-1, 1], 1)]
        self.check(Rule(people, states), "ann", Fraction(0), None)
        states[5] = [([-4, 4], 1)]
        self.check(Rule(people, states), "ann", Fraction(0), Fraction(4))
        states[5] = [([-5, 5], 1)]
        self.check(Rule(people, states), "ann", None, Fraction(4))

    def test_a_better_way_that_is_longer(self):
        people = [("ann", 1), ("bob", 1)]
        rule = Rule(people, [[([0, 0], 1), ([0, 1], 3)], [([5, -5], 2), ([5, -4], 2)], [([5, -5], 3), ([5, -4], 3)],
                             [([1, -1], 4), ([1, 0], 4)], [([0, 0], 4), ([-1, 2], 4)]])
        self.check(rule, "ann", None, Fraction(11))
        self.assertEqual(bounds(rule, "ann")[3:], [(3, (-1, 2), (10, 1)), (4, None, (11, 1))])

    def test_against_a_plain_search(self):
        ends = {True: 0, False: 0}
        for rule in some_small_rules(random.Random(73), 40):
            for name in names(rule):
                told = plain_bounds(rule, name)
                lows, highs = [low for _, low, _ in told], [high for _, _, high in told]
                low = None if None in lows else min(lows)
                high = None if None in highs else max(highs)
                ends[low is None] += 1
                ends[high is None] += 1
                self.check(rule, name, low, high)
                self.assertEqual(bounds(rule, name), [(state, as_told(least), as_told(most))
                                                      for state, least, most in told])
        self.assertTrue(min(ends.values()) > 50, ends)

    def test_no_list_is_farther(self):
        source = random.Random(74)
        for _ in range(30):
            rule = Rule(FOUR, random_states(source, FOUR, source.randint(1, 6), -1, 3))
            for name in names(rule):
                ends = {state: (low, high) for state, low, high in bounds(rule, name)}
                for _ in range(10):
                    bills = [source.randint(-10000, 10000) for _ in range(source.randint(0, 40))]
                    low, high = ends[rule.state(bills)]
                    value = difference(rule, name, bills)
                    self.assertTrue(low is None or told_value(low) <= value)
                    self.assertTrue(high is None or value <= told_value(high))


class TestBounds(unittest.TestCase):
    def test_states_behind_rounds_and_ahead_of_them(self):
        people = [("ann", 1), ("bob", 1)]
        # State 1 is ahead of the round of state 3, state 4 behind it, state 2 beside it.
        rule = Rule(people, [[([0, 0], 1), ([1, 0], 2)], [([0, 0], 3), ([1, 0], 3)], [([0, 0], 2), ([1, -0], 5)],
                             [([0, 0], 3), ([1, 0], 4)], [([0, 0], 4), ([0, 1], 5)], [([0, 0], 5), ([0, 1], 4)]])
        self.assertEqual(bounds(rule, "ann"), [
            (0, (0, 1), (0, 1)), (1, (0, 1), (0, 1)), (2, (1, 2), (1, 2)), (3, (0, 1), (1, 2)),
            (4, None, (1, 1)), (5, None, (1, 1))])
        states = rule.states
        states[3][0] = ([1, -1], 3)
        states[5][1] = ([1, 0], 4)
        self.assertEqual(bounds(Rule(people, states), "ann"), [
            (0, (0, 1), (0, 1)), (1, (0, 1), (0, 1)), (2, (1, 2), (1, 2)), (3, (0, 1), None),
            (4, (1, 2), None), (5, (0, 1), None)])

    def test_one_round_ahead_of_another_one(self):
        people = [("ann", 1), ("bob", 0)]
        rule = Rule(people, [[([0, 0], 0)]])
        self.assertEqual(bounds(rule, "ann"), [(0, (0, 1), (0, 1))])
        people = [("ann", 1), ("bob", 1)]
        rule = Rule(people, [[([0, 0], 0), ([1, 0], 1)], [([1, -1], 1), ([1, 0], 2)], [([-1, 1], 2), ([1, 0], 3)],
                             [([0, 0], 3), ([0, 1], 2)]])
        self.assertEqual(bounds(rule, "ann"), [(0, (0, 1), (0, 1)), (1, (1, 2), None), (2, None, None),
                                               (3, None, None)])
        self.assertEqual(bounds(rule, "bob"), [(0, (0, 1), (0, 1)), (1, None, (-1, 2)), (2, None, None),
                                               (3, None, None)])

    def test_the_kinds_of_values(self):
        told = bounds(Rule(ANN_BOB, BOTH), "ann")
        self.assertIs(type(told), list)
        for each in told:
            self.assertIs(type(each), tuple)
            for end in each[1:]:
                self.assertTrue(end is None or (type(end) is tuple and [type(part) for part in end] == [int, int]))

    def test_the_states_are_those_that_come_about_ascending(self):
        source = random.Random(75)
        for _ in range(30):
            rule = Rule(ANN_BOB, random_states(source, ANN_BOB, 6))
            self.assertEqual([state for state, _, _ in bounds(rule, "bob")], sorted(reached(rule)))


class TestCalls(unittest.TestCase):
    FUNCTIONS = (greatest, lowest, greatest_bills, lowest_bills, growing, sinking, bounds)

    def test_unknown_people(self):
        rule = in_turn(ANN_BOB)
        for name in ("cy", "", "Ann", "annn", "an", "ann ", "~!{}", " "):
            for function in self.FUNCTIONS:
                with self.assertRaises(errors.UnknownPerson) as raised:
                    function(rule, name)
                self.assertIs(type(raised.exception), errors.UnknownPerson)
                self.assertEqual(raised.exception.value, name)
            for told in ([], bounds(rule, "ann"), [(0, (1, 1), (0, 1))], [(7, None, None)] * 60):
                with self.assertRaises(errors.UnknownPerson) as raised:
                    judge_bounds(rule, name, told)
                self.assertEqual(raised.exception.value, name)

    def test_arguments_by_name(self):
        rule = Rule(ANN_BOB, BOTH)
        for function in self.FUNCTIONS:
            self.assertEqual(function(name="bob", rule=rule), function(rule, "bob"))
        self.assertTrue(judge_bounds(told=bounds(rule, "bob"), name="bob", rule=rule))
        with self.assertRaises(errors.UnknownPerson):
            judge_bounds(told=[], name="x", rule=rule)

    def test_lists_are_new(self):
        rule = Rule(ANN_BOB, BOTH)
        for one in (rule, in_turn(ANN_BOB)):
            for function in self.FUNCTIONS:
                for name in ("ann", "bob"):
                    told, again = function(one, name), function(one, name)
                    self.assertTrue(all_apart(told, again, one.states))
                    spoil(told)
                    self.assertEqual(function(one, name), again)
        self.assertEqual(rule, Rule(ANN_BOB, BOTH))

    def test_rules_and_people_asked_by_turns(self):
        source = random.Random(76)
        rules = [Rule(ANN_BOB_CY, random_states(source, ANN_BOB_CY, 4, 0, 1)) for _ in range(4)]
        asked = [(function, rule, name) for function in self.FUNCTIONS for rule in rules for name in names(rule)]
        told = [function(Rule(rule.people, rule.states), name) for function, rule, name in asked]
        for _ in range(3):
            order = list(range(len(asked)))
            source.shuffle(order)
            for at in order:
                function, rule, name = asked[at]
                self.assertEqual(function(rule, name), told[at])
                judge_bounds(rule, name, [(0, (0, 1), None)])


class TestJudge(unittest.TestCase):
    def check_each_end(self, rule, name, told):
        """Move one end after the other, in by the least amount and out, and leave it out."""
        for at, (state, low, high) in enumerate(told):
            for end, place, sign in ((low, 1, 1), (high, 2, -1)):
                if end is None:
                    continue
                for many in (2, 20000):
                    moved = list(told)
                    top, bottom = end
                    moved[at] = told[at][:place] + ((top * many + sign, bottom * many),) + told[at][place + 1:]
                    self.assertIs(judge_bounds(rule, name, moved), False)

    def test_right_bounds(self):
        source = random.Random(81)
        for rule in some_small_rules(source, 30):
            for name in names(rule):
                told = bounds(rule, name)
                self.assertIs(judge_bounds(rule, name, told), True)
                source.shuffle(told)
                self.assertIs(judge_bounds(rule, name, told), True)
                self.check_each_end(rule, name, told)

    def test_against_the_words_of_the_document(self):
        source = random.Random(82)
        count = {True: 0, False: 0}
        for rule in some_small_rules(source, 40):
            for name in names(rule):
                for _ in range(10):
                    told = spoiled(source, bounds(rule, name), len(rule))
                    expected = plain_judge(rule, name, told)
                    count[expected] += 1
                    self.assertIs(judge_bounds(rule, name, told), expected, (rule.states, name, told))
        self.assertTrue(min(count.values()) > 200, count)

    def test_bounds_moved_out(self):
        turn = in_turn(ANN_BOB)
        # Both are moved by as much, as a bill of 0 and one of 1 lead back and forth.
        self.assertIs(judge_bounds(turn, "ann", [(0, (-1, 3), (1, 7)), (1, (1, 6), (9, 14))]), True)
        self.assertIs(judge_bounds(turn, "ann", [(0, (-1, 3), (1, 7)), (1, (0, 1), (9, 14))]), False)
        self.assertIs(judge_bounds(turn, "ann", [(0, (-1, 3), (1, 7)), (1, (1, 6), (10, 14))]), False)
        self.assertIs(judge_bounds(turn, "ann", [(0, (-20000, 1), (20000, 1)), (1, (-39999, 2), (40001, 2))]), True)

    def test_fractions_that_are_not_in_lowest_terms(self):
        turn = in_turn(ANN_BOB)
        self.assertIs(judge_bounds(turn, "ann", [(0, (0, 7), (0, 20000)), (1, (3, 6), (500, 1000))]), True)
        self.assertIs(judge_bounds(turn, "ann", [(0, (0, 7), (0, 20000)), (1, (3, 6), (499, 1000))]), False)
        self.assertIs(judge_bounds(turn, "ann", [(0, (0, 7), (0, 20000)), (1, (501, 1000), (1, 2))]), False)
        self.assertIs(judge_bounds(turn, "bob", [(1, (-7, 14), (-2, 4)), (0, (0, 3), (0, 1))]), True)
        great = 10 ** 50
        self.assertIs(judge_bounds(turn, "ann", [(0, (-1, great), (0, great)), (1, (great - 2, 2 * great), (1, 2))]),
                      True)
        self.assertIs(judge_bounds(turn, "ann", [(0, (-1, great), (0, great)), (1, (great - 1, 2 * great), (1, 2))]),
                      False)

    def test_none_on_either_side(self):
        first = first_rule(ANN_BOB)
        self.assertIs(judge_bounds(first, "ann", [(0, (0, 1), None)]), True)
        self.assertIs(judge_bounds(first, "ann", [(0, None, None)]), True)
        self.assertIs(judge_bounds(first, "ann", [(0, None, (20000, 1))]), False)
        self.assertIs(judge_bounds(first, "bob", [(0, None, (0, 1))]), True)
        self.assertIs(judge_bounds(first, "bob", [(0, (-20000, 1), (0, 1))]), False)
        turn = in_turn(ANN_BOB)
        self.assertIs(judge_bounds(turn, "ann", [(0, None, (0, 1)), (1, None, (1, 2))]), True)
        self.assertIs(judge_bounds(turn, "ann", [(0, None, (0, 1)), (1, (1, 2), (1, 2))]), False)
        self.assertIs(judge_bounds(turn, "ann", [(0, (0, 1), (0, 1)), (1, None, (1, 2))]), False)
        self.assertIs(judge_bounds(turn, "ann", [(0, (0, 1), None), (1, (1, 2), None)]), True)
        self.assertIs(judge_bounds(turn, "ann", [(0, (0, 1), None), (1, (1, 2), (1, 2))]), False)
        self.assertIs(judge_bounds(turn, "ann", [(0, (0, 1), (0, 1)), (1, (1, 2), None)]), False)
        # Nothing leads from state 1 back, so that it may be bounded less than state 0 is not.
        away = Rule(ANN_BOB, [[([0, 0], 1), ([1, 0], 1)], [([0, 0], 1), ([1, 0], 2)], [([0, 0], 2), ([0, 1], 1)]])
        self.assertIs(judge_bounds(away, "ann", [(0, (0, 1), (0, 1)), (1, None, None), (2, None, None)]), True)

    def test_states_that_lack_stand_twice_or_do_not_come_about(self):
        rule = Rule(ANN_BOB, BOTH)
        told = bounds(rule, "ann")
        self.assertIs(judge_bounds(rule, "ann", told), True)
        self.assertIs(judge_bounds(rule, "ann", []), False)
        for at in range(3):
            self.assertIs(judge_bounds(rule, "ann", told[:at] + told[at + 1:]), False)
            self.assertIs(judge_bounds(rule, "ann", told + [told[at]]), False)
            self.assertIs(judge_bounds(rule, "ann", told[:at] + [told[at]] + told[at:]), False)
        for state in (3, 4, -1, 20000, -20000):
            self.assertIs(judge_bounds(rule, "ann", told + [(state, None, None)]), False)
            self.assertIs(judge_bounds(rule, "ann", told[:2] + [(state, None, None)]), False)
            self.assertIs(judge_bounds(rule, "ann", told[1:] + [(state, None, None)]), False)
        self.assertIs(judge_bounds(rule, "ann", [(0, None, None)] * 60), False)
        self.assertIs(judge_bounds(rule, "ann", [(state, None, None) for state in (2, 0, 1)]), True)

    def test_low_above_high(self):
        turn = in_turn(ANN_BOB)
        self.assertIs(judge_bounds(turn, "ann", [(0, (0, 1), (0, 1)), (1, (1, 2), (0, 1))]), False)
        self.assertIs(judge_bounds(turn, "ann", [(0, (0, 1), (0, 1)), (1, (1, 1), (1, 2))]), False)
        self.assertIs(judge_bounds(turn, "ann", [(0, (1, 1), (-1, 1)), (1, (3, 2), (-1, 2))]), False)

    def test_0_outside_of_the_bounds_of_state_0(self):
        turn = in_turn(ANN_BOB)
        self.assertIs(judge_bounds(turn, "ann", [(0, (1, 2), (1, 2)), (1, (1, 1), (1, 1))]), False)
        self.assertIs(judge_bounds(turn, "ann", [(0, (-1, 2), (-1, 2)), (1, (0, 1), (0, 1))]), False)
        self.assertIs(judge_bounds(turn, "ann", [(0, (1, 20000), None), (1, (10001, 20000), None)]), False)
        self.assertIs(judge_bounds(turn, "ann", [(0, None, (-1, 20000)), (1, None, (9999, 20000))]), False)

    def test_arguments_stay_as_they_were(self):
        rule = Rule(ANN_BOB, BOTH)
        for told in (bounds(rule, "ann"), [(0, (1, 2), (2, 4))], []):
            self.assertTrue(unchanged_by(judge_bounds, rule, "ann", told))
            self.assertTrue(unchanged_by(judge_bounds, rule, "none", told))
        told = bounds(rule, "ann")
        self.assertTrue(judge_bounds(rule, "ann", told))
        told.pop()
        self.assertFalse(judge_bounds(rule, "ann", told))
        self.assertEqual(len(bounds(rule, "ann")), 3)


def spoiled(source, told, many):
    """Told bounds with some ends that are moved, sometimes with a state too many, too few or another one."""
    found = []
    more = Fraction(source.randint(0, 3), source.randint(1, 4))
    for state, low, high in told:
        low = None if low is None or source.random() < 0.1 else told_value(low) - more
        high = None if high is None or source.random() < 0.1 else told_value(high) + more
        if source.random() < 0.1:
            low, high = low if low is None else low + Fraction(1, 4), high
        if source.random() < 0.1:
            low, high = low, high if high is None else high - Fraction(1, 6)
        if source.random() < 0.04:
            state = source.randint(-1, many)
        if source.random() < 0.03:
            low, high = high, low
        times = source.randint(1, 5)
        found.append((state,) + tuple(None if end is None else (end.numerator * times, end.denominator * times)
                                      for end in (low, high)))
    if source.random() < 0.05:
        found.pop(source.randrange(len(found)))
    if source.random() < 0.05:
        found.append((source.randint(-1, many), None, None))
    source.shuffle(found)
    return found


def plain_judge(rule, name, told):
    """Whether told bounds are as the document's words for judge_bounds want them, one after the other."""
    if sorted(state for state, _, _ in told) != sorted(reached(rule)):
        return False
    infinite = 10 ** 9
    ends = {state: (Fraction(-infinite) if low is None else Fraction(*low),
                    Fraction(infinite) if high is None else Fraction(*high)) for state, low, high in told}
    if any(low > high for low, high in ends.values()) or not ends[0][0] <= 0 <= ends[0][1]:
        return False
    place, weight = names(rule).index(name), rule[name]
    for state, row in enumerate(rule.states):
        for rest, (extras, after) in enumerate(row):
            if state not in ends:
                continue
            gain = extras[place] - Fraction(rest * weight, rule.weight)
            low, high = ends[state]
            low = low if low == -infinite else low + gain
            high = high if high == infinite else high + gain
            if low < ends[after][0] or high > ends[after][1]:
                return False
    return True


if __name__ == "__main__":
    unittest.main()
