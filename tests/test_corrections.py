"""Point [7]: anew and beside."""

import random
import unittest

from owedafresh import errors
from owedafresh.rules import Rule, anew, beside, by_rows, in_turn
from tests.helper import ANN_BOB, ANN_BOB_CY, all_apart, first_rule, random_rows, random_states, spoil, unchanged_by

ODD = [[([0, 0], 0), ([1, 0], 1)], [([0, 0], 0), ([0, 1], 1)]]


class TestCorrections(unittest.TestCase):
    def test_the_examples_of_the_document(self):
        first, turn = first_rule(ANN_BOB_CY), in_turn(ANN_BOB_CY)
        self.assertEqual(anew(first, [100, 100], 0, 99), [67, 66, 66])
        self.assertEqual(beside(first, [100, 100], 0, 99), [68, 66, 65])
        self.assertEqual(anew(turn, [100, 100], 0, 99), [67, 66, 66])
        self.assertEqual(beside(turn, [100, 100], 0, 99), [67, 66, 66])

    def test_anew_deals_all_bills_with_the_other_amount(self):
        rule = Rule(ANN_BOB, ODD)
        self.assertEqual(anew(rule, [1, 1, 1], 0, 0), rule.shares([0, 1, 1]))
        self.assertEqual(anew(rule, [1, 1, 1], 1, 0), rule.shares([1, 0, 1]))
        self.assertEqual(anew(rule, [1, 1, 1], 2, 0), rule.shares([1, 1, 0]))
        self.assertEqual(anew(rule, [1, 1, 1], 1, 0), [2, 0])
        self.assertEqual(anew(rule, [5], 0, -7), rule.shares([-7]))

    def test_beside_deals_the_difference_behind_all_bills(self):
        rule = Rule(ANN_BOB, ODD)
        self.assertEqual(beside(rule, [1, 1, 1], 0, 0), rule.shares([1, 1, 1, -1]))
        self.assertEqual(beside(rule, [1, 3, 1], 1, 10), rule.shares([1, 3, 1, 7]))
        self.assertEqual(beside(rule, [5], 0, -7), rule.shares([5, -12]))

    def test_a_difference_of_0_is_a_bill_like_all_others(self):
        rule = Rule(ANN_BOB, [[([0, 0], 1), ([1, 0], 1)], [([2, -2], 0), ([0, 1], 0)]])
        self.assertEqual(anew(rule, [1], 0, 1), [1, 0])
        self.assertEqual(beside(rule, [1], 0, 1), [3, -2])

    def test_indexes_of_no_bill(self):
        rule = Rule(ANN_BOB, ODD)
        for call in (anew, beside):
            for bills, index in (([], 0), ([], -1), ([5], 1), ([5], -1), ([5], -2), ([1, 2, 3], 3), ([1, 2, 3], -3),
                                 ([1, 2, 3], 100)):
                with self.assertRaises(errors.UnknownBill) as raised:
                    call(rule, bills, index, 7)
                self.assertIs(type(raised.exception), errors.UnknownBill)
                self.assertEqual(raised.exception.value, index)
            self.assertEqual(rule, Rule(ANN_BOB, ODD))

    def test_arguments_by_name(self):
        rule = Rule(ANN_BOB, ODD)
        self.assertEqual(anew(amount=0, index=1, bills=[1, 1, 1], rule=rule), [2, 0])
        self.assertEqual(beside(amount=0, index=1, bills=[1, 1, 1], rule=rule), rule.shares([1, 1, 1, -1]))

    def test_arguments_stay_as_they_were_and_lists_are_new(self):
        rule = Rule(ANN_BOB, ODD)
        bills = [1, 2, 3]
        for call in (anew, beside):
            self.assertTrue(unchanged_by(call, rule, bills, 1, 9))
            self.assertTrue(unchanged_by(call, rule, bills, 3, 9))
            told = call(rule, bills, 1, 9)
            again = call(rule, bills, 1, 9)
            self.assertTrue(all_apart(told, again, bills))
            spoil(told)
            self.assertEqual(call(rule, bills, 1, 9), again)
        self.assertEqual(bills, [1, 2, 3])

    def test_the_same_list_asked_again_after_it_was_changed(self):
        rule = Rule(ANN_BOB, ODD)
        bills = [1, 1, 1]
        told = [anew(rule, bills, 0, 0), beside(rule, bills, 0, 0)]
        bills[1] = 0
        told += [anew(rule, bills, 0, 0), beside(rule, bills, 0, 0)]
        expected = [[0, 1, 1], [1, 1, 1, -1], [0, 0, 1], [1, 0, 1, -1]]
        self.assertEqual(told, [rule.shares(each) for each in expected])

    def test_whole_rules_correct_alike(self):
        source = random.Random(11)
        for _ in range(60):
            people = [("ann", source.randrange(3)), ("bob", source.randrange(1, 4))]
            rule = by_rows(people, random_rows(source, people))
            bills = [source.randint(-10000, 10000) for _ in range(source.randint(1, 40))]
            index, amount = source.randrange(len(bills)), source.randint(-10000, 10000)
            self.assertEqual(anew(rule, bills, index, amount), beside(rule, bills, index, amount))

    def test_rules_of_the_greatest_sizes(self):
        source = random.Random(12)
        people = [(name, 1) for name in ("ann", "bob", "cy", "dee", "eve", "fay", "gus")] + [("hal", 5)]
        rule = Rule(people, random_states(source, people, 12, -17, 17))
        bills = [source.randint(-10000, 10000) for _ in range(40)]
        for index in (0, 17, 39):
            changed = list(bills)
            changed[index] = 10000
            self.assertEqual(anew(rule, bills, index, 10000), rule.shares(changed))
            self.assertEqual(beside(rule, bills, index, 10000), rule.shares(bills + [10000 - bills[index]]))


if __name__ == "__main__":
    unittest.main()
