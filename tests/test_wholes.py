"""Points [8] and [9]: is_whole, rows, judge and unlike of the head owedafresh/wholes.py."""

import copy
import random
import unittest

from owedafresh import errors
from owedafresh.rules import Rule, anew, beside, by_rows, in_turn
from owedafresh.wholes import first_unlike, is_whole, judge, least, rows, unlike
from tests.helper import (ANN_BOB, ANN_BOB_CY, all_apart, first_rule, long_rule, random_rows, random_states, reached,
                          short_lists, spoil, unchanged_by, with_copies)

EIGHT = [("ann", 1), ("bob", 0), ("cy", 2), ("dee", 1), ("eve", 3), ("fay", 1), ("gus", 0), ("hal", 4)]
FOUR = [("ann", 1), ("bob", 0), ("cy", 2), ("dee", 3)]


def plain_is_whole(rule):
    """Whether a rule is whole, by a search over all lists that are long enough to show otherwise."""
    weights = [weight for _, weight in rule.people]
    # A bill that grows by the whole weight adds the weights and leads to the same state, so that shares less
    # the weights for each whole weight of the sum must be the same for all lists whose sums have the same rest.
    told = {}
    for bills in short_lists(rule.weight, len(rule) * rule.weight):
        quotient, rest = divmod(sum(bills), rule.weight)
        dealt = [share - quotient * weight for share, weight in zip(rule.shares(bills), weights)]
        if told.setdefault(rest, dealt) != dealt:
            return False
    return True


def spoiled(source, rule):
    """A rule with other extra cents in one place of a state that comes about."""
    states = rule.states
    state = source.choice(reached(rule))
    rest = source.randrange(rule.weight)
    if state == 0 and rest == 0:
        rest = rule.weight - 1
    extras = states[state][rest][0]
    if state > 0 or rest > 0:
        extras[0] += 1
        extras[-1] -= 1
    return Rule(rule.people, states)


def some_rules(source):
    """Small rules, whole ones and others, with copies of states and states that do not come about."""
    found = []
    for _ in range(25):
        people = source.choice([[("ann", 1), ("bob", 1)], [("ann", 2), ("bob", 0)], [("ann", 1), ("bob", 0)]])
        table = by_rows(people, random_rows(source, people))
        copied = with_copies(source, table, source.randint(len(table), 4))
        found += [table, copied, spoiled(source, copied)]
        found.append(Rule(people, random_states(source, people, source.randint(1, 3), 0, 1)))
    return found


class TestExamples(unittest.TestCase):
    def test_the_examples_of_the_document(self):
        first, long = first_rule(ANN_BOB), long_rule()
        self.assertEqual(
            [is_whole(first), is_whole(long), rows(long), judge(long, [[0, 0], [1, 0]]),
             judge(first, [[0, 0], [1, 0]]), unlike(long)],
            [False, True, [[0, 0], [1, 0]], True, False, None])
        one, other = unlike(first)
        self.assertEqual(
            [sum(one) == sum(other), first.shares(one) == first.shares(other), first_unlike(first, long),
             len(least(long)), least(long) == in_turn(ANN_BOB), first_unlike(long, in_turn(ANN_BOB))],
            [True, False, [1, 1], 2, True, None])


class TestWhole(unittest.TestCase):
    def check_unlike(self, rule):
        lists = unlike(rule)
        self.assertIs(type(lists), tuple)
        one, other = lists
        self.assertIs(type(one), list)
        self.assertIs(type(other), list)
        self.assertEqual(sum(one), sum(other))
        self.assertNotEqual(rule.shares(one), rule.shares(other))
        with self.assertRaises(errors.NotWhole) as raised:
            rows(rule)
        self.assertIs(type(raised.exception), errors.NotWhole)
        self.assertIs(type(raised.exception.value), tuple)
        one, other = raised.exception.value
        self.assertEqual(sum(one), sum(other))
        self.assertNotEqual(rule.shares(one), rule.shares(other))

    def check_whole(self, rule, table):
        self.assertIs(is_whole(rule), True)
        self.assertIsNone(unlike(rule))
        self.assertEqual(rows(rule), table)
        self.assertIs(judge(rule, table), True)

    def test_tables_are_whole(self):
        source = random.Random(31)
        for _ in range(60):
            people = [("ann", source.randrange(3)), ("bob", source.randrange(1, 3)), ("cy", source.randrange(2))]
            table = random_rows(source, people, -50, 50)
            self.check_whole(by_rows(people, table), table)

    def test_tables_with_states_that_are_there_several_times_are_whole(self):
        source = random.Random(32)
        for _ in range(60):
            people = [("ann", source.randrange(3)), ("bob", source.randrange(1, 3))]
            table = random_rows(source, people)
            self.check_whole(with_copies(source, by_rows(people, table), 6), table)

    def test_states_that_do_not_come_about_do_not_count(self):
        wild = [([9, -9], 2), ([7, -6], 0)]
        rule = long_rule()
        self.check_whole(Rule(ANN_BOB, rule.states + [wild]), [[0, 0], [1, 0]])
        self.assertTrue(is_whole(Rule(ANN_BOB, [[([0, 0], 2), ([1, 0], 1)], [([0, 0], 1), ([0, 1], 0)]] + [
            [([0, 0], 0), ([1, 0], 1)], wild])))

    def test_rules_that_are_not_whole(self):
        odd = Rule(ANN_BOB, [[([0, 0], 0), ([1, 0], 1)], [([0, 0], 0), ([0, 1], 1)]])
        wrong_zero = Rule(ANN_BOB, [[([0, 0], 1), ([1, 0], 1)], [([1, -1], 0), ([0, 1], 0)]])
        late = Rule([("ann", 1), ("bob", 0)], [[([0, 0], k + 1)] for k in range(5)] + [[([1, -1], 5)]])
        for rule in (first_rule(ANN_BOB), first_rule(ANN_BOB_CY), odd, wrong_zero, late):
            self.assertIs(is_whole(rule), False)
            self.check_unlike(rule)

    def test_one_state_that_is_whole(self):
        self.check_whole(Rule([("ann", 1)], [[([0], 0)]]), [[0]])
        self.check_whole(Rule([("ann", 3)], [[([0], 0), ([1], 0), ([2], 0)]]), [[0], [1], [2]])
        self.check_whole(Rule([("ann", 0), ("bob", 2)], [[([0, 0], 0), ([0, 1], 0)]]), [[0, 0], [0, 1]])

    def test_rules_against_a_plain_search(self):
        told = []
        for rule in some_rules(random.Random(33)):
            expected = plain_is_whole(rule)
            told.append(expected)
            self.assertIs(is_whole(rule), expected)
            if expected:
                self.check_whole(rule, [rule.shares([rest]) for rest in range(rule.weight)])
            else:
                self.check_unlike(rule)
        self.assertTrue(20 < told.count(True) < len(told) - 20)

    def test_whole_rules_have_the_shares_of_their_table(self):
        source = random.Random(34)
        for rule in some_rules(source):
            if not is_whole(rule):
                continue
            table = rows(rule)
            for _ in range(10):
                bills = [source.randint(-10000, 10000) for _ in range(source.randint(0, 40))]
                quotient, rest = divmod(sum(bills), rule.weight)
                expected = [quotient * weight + table[rest][k] for k, (_, weight) in enumerate(rule.people)]
                self.assertEqual(rule.shares(bills), expected)

    def test_corrections_anew_and_beside_are_alike_exactly_for_whole_rules(self):
        for rule in some_rules(random.Random(35)):
            alike = True
            for bills in short_lists(rule.weight, 6):
                for amount in range(rule.weight):
                    alike = alike and all(anew(rule, bills, index, amount) == beside(rule, bills, index, amount)
                                          for index in range(len(bills)))
            self.assertEqual(is_whole(rule), alike)

    def test_arguments_by_name(self):
        rule = long_rule()
        self.assertTrue(is_whole(rule=rule))
        self.assertEqual(rows(rule=rule), [[0, 0], [1, 0]])
        self.assertIsNone(unlike(rule=rule))
        self.assertTrue(judge(told=[[0, 0], [1, 0]], rule=rule))

    def test_returned_lists_are_new(self):
        whole, first = long_rule(), first_rule(ANN_BOB)
        told, again = rows(whole), rows(whole)
        self.assertTrue(all_apart(told, again, whole.states))
        spoil(told)
        self.assertEqual(rows(whole), again)
        told, again = unlike(first), unlike(first)
        self.assertTrue(all_apart(told, again))
        spoil(told)
        self.assertEqual(unlike(first), again)
        values = []
        for _ in range(2):
            with self.assertRaises(errors.NotWhole) as raised:
                rows(first)
            values.append(raised.exception.value)
        self.assertTrue(all_apart(*values))
        spoil(values[0])
        self.assertNotEqual(values[0], values[1])
        self.assertEqual(first, first_rule(ANN_BOB))

    def test_rules_of_the_greatest_sizes(self):
        source = random.Random(36)
        for _ in range(10):
            rule = Rule(FOUR, random_states(source, FOUR, 6, -16, 16))
            self.assertFalse(is_whole(rule))
            self.check_unlike(rule)
        table = random_rows(source, FOUR, -16, 16)
        table[5] = [50, -50, 50, -45]
        self.check_whole(by_rows(FOUR, table), table)
        people = [("ann", 2), ("bob", 0)]
        table = [[0, 0], [50, -49]]
        self.check_whole(with_copies(source, by_rows(people, table), 6), table)

    def test_returned_rules_of_greater_sizes(self):
        source = random.Random(37)
        table = random_rows(source, EIGHT, -17, 17)
        self.check_whole(by_rows(EIGHT, table), table)
        self.assertTrue(is_whole(in_turn(EIGHT)))
        self.assertTrue(is_whole(least(in_turn(EIGHT))))


class TestJudge(unittest.TestCase):
    def test_right_rows(self):
        source = random.Random(41)
        for _ in range(20):
            table = random_rows(source, ANN_BOB_CY, -20, 20)
            rule = by_rows(ANN_BOB_CY, table)
            self.assertIs(judge(rule, copy.deepcopy(table)), True)
            self.assertIs(judge(rule, rows(rule)), True)

    def test_rows_with_one_thing_wrong(self):
        rule = in_turn(ANN_BOB_CY)
        table = [[0, 0, 0], [1, 0, 0], [1, 1, 0]]
        self.assertIs(judge(rule, table), True)
        for rest in range(3):
            for place in range(3):
                for more in (1, -1, 99):
                    wrong = copy.deepcopy(table)
                    wrong[rest][place] += more
                    self.assertIs(judge(rule, wrong), False)
                    wrong[rest][(place + 1) % 3] -= more
                    self.assertIs(judge(rule, wrong), False)

    def test_rows_in_another_order(self):
        rule = in_turn(ANN_BOB_CY)
        self.assertIs(judge(rule, [[0, 0, 0], [1, 1, 0], [1, 0, 0]]), False)
        self.assertIs(judge(rule, [[0, 0, 0], [0, 1, 0], [1, 1, 0]]), False)
        self.assertIs(judge(rule, [[0, 0, 0], [1, 0, 0], [0, 1, 1]]), False)

    def test_rows_too_few_or_too_many(self):
        rule = in_turn(ANN_BOB_CY)
        table = [[0, 0, 0], [1, 0, 0], [1, 1, 0]]
        self.assertIs(judge(rule, []), False)
        self.assertIs(judge(rule, table[:1]), False)
        self.assertIs(judge(rule, table[:2]), False)
        self.assertIs(judge(rule, table[1:]), False)
        self.assertIs(judge(rule, table + [[1, 1, 1]]), False)
        self.assertIs(judge(rule, table + [[]]), False)
        self.assertIs(judge(rule, table * 20), False)

    def test_rows_with_integers_too_few_or_too_many(self):
        rule = in_turn(ANN_BOB_CY)
        self.assertIs(judge(rule, [[0, 0, 0], [1, 0, 0], [1, 1]]), False)
        self.assertIs(judge(rule, [[0, 0, 0], [1, 0, 0, 0], [1, 1, 0]]), False)
        self.assertIs(judge(rule, [[], [1, 0, 0], [1, 1, 0]]), False)
        self.assertIs(judge(rule, [[], [], []]), False)

    def test_rules_that_are_not_whole_have_no_rows(self):
        rule = first_rule(ANN_BOB_CY)
        self.assertIs(judge(rule, [rule.shares([rest]) for rest in range(3)]), False)
        self.assertIs(judge(rule, [[0, 0, 0], [1, 0, 0], [1, 1, 0]]), False)
        self.assertIs(judge(rule, []), False)

    def test_arguments_stay_as_they_were(self):
        rule = in_turn(ANN_BOB)
        for told in ([[0, 0], [1, 0]], [[1, 0], [0, 0]], []):
            self.assertTrue(unchanged_by(judge, rule, told))
        told = [[0, 0], [1, 0]]
        self.assertTrue(judge(rule, told))
        told[1] = [0, 1]
        self.assertFalse(judge(rule, told))
        self.assertEqual(rows(rule), [[0, 0], [1, 0]])

    def test_one_list_that_stands_in_several_places(self):
        row = [0]
        self.assertTrue(judge(in_turn([("ann", 1)]), [row]))
        self.assertFalse(judge(in_turn([("ann", 2)]), [row, row]))

    def test_the_greatest_size(self):
        source = random.Random(42)
        table = random_rows(source, FOUR, -16, 16)
        rule = by_rows(FOUR, table)
        self.assertTrue(judge(rule, table))
        self.assertFalse(judge(rule, table[:5] + [[99, -99, 99, -94]]))
        self.assertFalse(judge(rule, [[99, -99, 99, -99]] * 60))


if __name__ == "__main__":
    unittest.main()
