"""The head owedafresh/ledgers.py, and points [2], [3], [5] and [7] as far as ledgers go."""

import random
import unittest
from unittest import mock

from owedafresh import errors
from owedafresh.ledgers import BesideLedger, Ledger
from owedafresh.rules import Rule, in_turn
from tests.helper import (ANN_BOB, ANN_BOB_CY, PlainLedger, all_apart, do_deed, first_rule, random_deed,
                          random_states, seconds, some_small_rules, spoil, what_it_tells)

BOTH = (Ledger, BesideLedger)
ODD = Rule(ANN_BOB, [[([0, 0], 0), ([1, 0], 1)], [([0, 0], 0), ([0, 1], 1)]])
# A rule that deals something for a bill of 0, so that each bill counts.
DEALING = Rule(ANN_BOB, [[([0, 0], 1), ([1, 0], 0)], [([3, -3], 0), ([0, 1], 1)]])
GREATEST = [("ann", 1), ("bob", 0), ("cy", 2), ("dee", 1), ("eve", 3), ("fay", 1), ("gus", 0), ("hal", 4)]


def filled(kind, rule, deeds):
    """A ledger of this kind with these deeds."""
    ledger = kind(rule)
    for deed in deeds:
        do_deed(ledger, deed)
    return ledger


class TestExamples(unittest.TestCase):
    def test_the_examples_of_the_document(self):
        rule = Rule([("ann", 1), ("bob", 1)], [[([0, 0], 0), ([1, 0], 0)]])
        ledger, beside = Ledger(rule), BesideLedger(rule)
        told = [ledger("ann", 5), ledger.balances(), ledger.correct(0, 6), ledger.balances(),
                ledger.pay("bob", "ann", 3), ledger.balances(), ledger.undo(), ledger.undo(), ledger.bills]
        self.assertEqual(told, [0, [2, -2], [0, 1], [3, -3], None, [0, 0], None, None, [5]])
        told = [beside("ann", 5), beside.correct(0, 6), beside.bills, beside.balances(), beside.correct(0, 5),
                beside.bills, len(beside)]
        self.assertEqual(told, [0, [1, 0], [5, 1], [2, -2], [0, -1], [5, 1, -1], 3])


class TestBothKinds(unittest.TestCase):
    """What a ledger does however it corrects."""

    def test_a_new_ledger(self):
        for kind in BOTH:
            ledger = kind(first_rule(ANN_BOB_CY))
            self.assertEqual(what_it_tells(ledger), ([], [0, 0, 0], [0, 0, 0], 0))

    def test_bills(self):
        for kind in BOTH:
            ledger = kind(first_rule(ANN_BOB_CY))
            self.assertEqual([ledger("bob", 100), ledger("ann", 100), ledger("bob", -7), ledger("cy", 0)], [0, 1, 2, 3])
            self.assertEqual(ledger.bills, [100, 100, -7, 0])
            self.assertEqual(ledger.shares(), [66, 64, 63])
            self.assertEqual(ledger.balances(), [34, 29, -63])
            self.assertEqual(len(ledger), 4)

    def test_bills_are_dealt_in_their_order(self):
        for kind in BOTH:
            self.assertEqual(filled(kind, ODD, [("bill", "ann", 1, None), ("bill", "ann", 0, None)]).shares(), [1, 0])
            ledger = filled(kind, ODD, [("bill", "bob", amount, None) for amount in (1, 1, 0, 1)])
            self.assertEqual([ledger.shares(), ledger.balances()], [[2, 1], [-2, 2]])

    def test_bills_of_0_are_bills(self):
        for kind in BOTH:
            ledger = kind(DEALING)
            self.assertEqual([ledger("ann", 0), ledger("bob", 0)], [0, 1])
            self.assertEqual(what_it_tells(ledger), ([0, 0], [3, -3], [-3, 3], 2))

    def test_payments(self):
        for kind in BOTH:
            ledger = kind(first_rule(ANN_BOB_CY))
            self.assertIsNone(ledger.pay("ann", "cy", 5))
            self.assertEqual(what_it_tells(ledger), ([], [0, 0, 0], [5, 0, -5], 0))
            self.assertIsNone(ledger.pay("cy", "bob", 2))
            self.assertEqual(ledger.balances(), [5, -2, -3])
            ledger("bob", 9)
            self.assertEqual(what_it_tells(ledger), ([9], [3, 3, 3], [2, 4, -6], 1))

    def test_payments_of_negative_amounts_and_of_0(self):
        for kind in BOTH:
            ledger = kind(ODD)
            self.assertIsNone(ledger.pay("ann", "bob", -4))
            self.assertEqual(ledger.balances(), [-4, 4])
            self.assertIsNone(ledger.pay("ann", "bob", 0))
            self.assertEqual(ledger.balances(), [-4, 4])
            ledger.undo()
            self.assertEqual(ledger.balances(), [-4, 4])
            ledger.undo()
            self.assertEqual(ledger.balances(), [0, 0])

    def test_payments_to_oneself(self):
        for kind in BOTH:
            ledger = kind(ODD)
            ledger("ann", 3)
            before = what_it_tells(ledger)
            for amount in (7, 0, -7):
                self.assertIsNone(ledger.pay("bob", "bob", amount))
                self.assertEqual(what_it_tells(ledger), before)
            for _ in range(3):
                self.assertIsNone(ledger.undo())
                self.assertEqual(what_it_tells(ledger), before)
            ledger.undo()
            self.assertEqual(ledger.bills, [])

    def test_arguments_by_name(self):
        for kind in BOTH:
            ledger = kind(rule=ODD)
            self.assertEqual(ledger(amount=5, name="bob"), 0)
            self.assertEqual(ledger.correct(amount=3, index=0), [-1, -1])
            self.assertIsNone(ledger.pay(amount=1, other="bob", name="ann"))
            self.assertEqual([ledger.shares(), ledger.balances()], [[2, 1], [-1, 1]])

    def test_the_kinds_of_values(self):
        for kind in BOTH:
            ledger = kind(ODD)
            self.assertIs(type(ledger("ann", 5)), int)
            for value in (ledger.correct(0, 7), ledger.bills, ledger.shares(), ledger.balances()):
                self.assertIs(type(value), list)
                self.assertTrue(all(type(each) is int for each in value))
            self.assertIs(type(len(ledger)), int)

    def test_balances_have_the_sum_0(self):
        source = random.Random(201)
        for kind in BOTH:
            for rule in some_small_rules(source, 6):
                ledger = kind(rule)
                for _ in range(20):
                    do_deed(ledger, random_deed(source, rule, len(ledger), 10000))
                    self.assertEqual(sum(ledger.balances()), 0)
                    self.assertEqual(sum(ledger.shares()), sum(ledger.bills))

    def test_amounts_of_any_size(self):
        for kind in BOTH:
            ledger = kind(ODD)
            ledger("ann", 10 ** 30 + 1)
            self.assertEqual(ledger.balances(), [10 ** 30 // 2, -(10 ** 30) // 2])


class TestAnew(unittest.TestCase):
    def test_a_correction_takes_the_place_of_the_bill(self):
        ledger = filled(Ledger, ODD, [("bill", name, 1, None) for name in ("ann", "bob", "ann")])
        self.assertEqual([ledger.shares(), ledger.balances()], [[1, 2], [1, -1]])
        self.assertEqual(ledger.correct(1, 0), [1, -2])
        self.assertEqual(what_it_tells(ledger), ([1, 0, 1], [2, 0], [0, 0], 3))
        self.assertEqual(ledger.correct(0, 8), [3, 4])
        self.assertEqual(what_it_tells(ledger), ([8, 0, 1], [5, 4], [4, -4], 3))

    def test_several_corrections_of_one_bill(self):
        ledger = filled(Ledger, first_rule(ANN_BOB), [("bill", "bob", 5, None)])
        self.assertEqual([ledger.correct(0, amount) for amount in (6, 6, -1, 0, 5)],
                         [[0, 1], [0, 0], [-3, -4], [0, 1], [3, 2]])
        self.assertEqual(what_it_tells(ledger), ([5], [3, 2], [-3, 3], 1))

    def test_a_correction_by_the_own_amount_is_a_deed(self):
        ledger = filled(Ledger, DEALING, [("bill", "ann", 0, None), ("bill", "bob", 1, None)])
        before = what_it_tells(ledger)
        self.assertEqual(ledger.correct(0, 0), [0, 0])
        self.assertEqual(what_it_tells(ledger), before)
        ledger.undo()
        self.assertEqual(what_it_tells(ledger), before)
        ledger.undo()
        self.assertEqual(ledger.bills, [0])

    def test_each_correction_is_taken_back(self):
        ledger = filled(Ledger, ODD, [("bill", "ann", 5, None), ("bill", "bob", 4, None)])
        told = [what_it_tells(ledger)]
        for index, amount in ((0, 6), (0, 7), (1, 1), (0, 7), (1, -3)):
            ledger.correct(index, amount)
            told.append(what_it_tells(ledger))
        while len(told) > 0:
            self.assertEqual(what_it_tells(ledger), told.pop())
            ledger.undo()
        self.assertEqual(ledger.bills, [5])

    def test_who_paid_stays(self):
        ledger = filled(Ledger, first_rule(ANN_BOB), [("bill", "bob", 4, None), ("correct", 0, 10, None)])
        self.assertEqual(ledger.balances(), [-5, 5])
        ledger("ann", 2)
        ledger.correct(1, 4)
        self.assertEqual(ledger.balances(), [-3, 3])


class TestBeside(unittest.TestCase):
    def test_a_subclass(self):
        self.assertTrue(issubclass(BesideLedger, Ledger))
        self.assertIsInstance(BesideLedger(ODD), Ledger)
        self.assertNotIsInstance(Ledger(ODD), BesideLedger)

    def test_a_correction_is_one_bill_more(self):
        ledger = filled(BesideLedger, ODD, [("bill", name, 1, None) for name in ("ann", "bob", "ann")])
        self.assertEqual(ledger.correct(1, 0), [-1, 0])
        self.assertEqual(what_it_tells(ledger), ([1, 1, 1, -1], [0, 2], [2, -2], 4))

    def test_who_paid_the_bill_paid_the_difference(self):
        ledger = filled(BesideLedger, first_rule(ANN_BOB_CY), [("bill", "cy", 3, None), ("bill", "bob", 3, None)])
        ledger.correct(0, 9)
        self.assertEqual([ledger.bills, ledger.balances()], [[3, 3, 6], [-4, -1, 5]])
        ledger.correct(1, 0)
        self.assertEqual([ledger.bills, ledger.balances()], [[3, 3, 6, -3], [-3, -3, 6]])
        ledger.correct(2, 0)
        self.assertEqual([ledger.bills, ledger.balances()], [[3, 3, 6, -3, -6], [-1, -1, 2]])

    def test_a_further_correction_counts_the_differences(self):
        ledger = filled(BesideLedger, first_rule(ANN_BOB), [("bill", "ann", 5, None)])
        for amount, bills in ((6, [5, 1]), (9, [5, 1, 3]), (0, [5, 1, 3, -9]), (5, [5, 1, 3, -9, 5])):
            ledger.correct(0, amount)
            self.assertEqual(ledger.bills, bills)
        self.assertEqual([ledger.shares(), ledger.balances()], [[5, 0], [0, 0]])

    def test_a_correction_of_another_bill_counts_none_of_them(self):
        ledger = filled(BesideLedger, first_rule(ANN_BOB), [("bill", "ann", 5, None), ("bill", "bob", 7, None)])
        ledger.correct(0, 6)
        ledger.correct(1, 9)
        ledger.correct(0, 6)
        ledger.correct(1, 7)
        self.assertEqual(ledger.bills, [5, 7, 1, 2, 0, -2])

    def test_a_difference_of_0_is_a_bill(self):
        ledger = filled(BesideLedger, DEALING, [("bill", "ann", 0, None)])
        self.assertEqual(ledger.correct(0, 0), [3, -3])
        self.assertEqual(what_it_tells(ledger), ([0, 0], [3, -3], [-3, 3], 2))
        self.assertEqual(ledger.correct(0, 0), [0, 0])
        self.assertEqual(ledger.correct(0, 0), [3, -3])
        self.assertEqual(what_it_tells(ledger), ([0, 0, 0, 0], [6, -6], [-6, 6], 4))
        ledger.undo()
        self.assertEqual(ledger.bills, [0, 0, 0])

    def test_a_correction_of_a_difference_counts_for_it_alone(self):
        ledger = filled(BesideLedger, first_rule(ANN_BOB), [("bill", "bob", 5, None)])
        ledger.correct(0, 6)
        ledger.correct(1, 4)
        self.assertEqual(ledger.bills, [5, 1, 3])
        ledger.correct(0, 6)
        self.assertEqual(ledger.bills, [5, 1, 3, 0])
        ledger.correct(1, 4)
        self.assertEqual(ledger.bills, [5, 1, 3, 0, 0])
        ledger.correct(2, 1)
        self.assertEqual(ledger.bills, [5, 1, 3, 0, 0, -2])
        ledger.correct(1, 0)
        self.assertEqual(ledger.bills, [5, 1, 3, 0, 0, -2, -4])
        ledger.correct(0, 7)
        self.assertEqual(ledger.bills, [5, 1, 3, 0, 0, -2, -4, 1])
        self.assertEqual(ledger.balances(), [-ledger.shares()[0], sum(ledger.bills) - ledger.shares()[1]])

    def test_a_correction_that_was_taken_back_counts_no_more(self):
        ledger = filled(BesideLedger, first_rule(ANN_BOB), [("bill", "bob", 5, None)])
        ledger.correct(0, 6)
        ledger.undo()
        self.assertEqual(ledger.bills, [5])
        ledger.correct(0, 6)
        self.assertEqual(ledger.bills, [5, 1])
        ledger.undo()
        self.assertEqual(ledger("ann", 8), 1)
        ledger.correct(0, 7)
        self.assertEqual(ledger.bills, [5, 8, 2])
        ledger.correct(1, 7)
        self.assertEqual(ledger.bills, [5, 8, 2, -1])

    def test_each_correction_of_a_difference_is_taken_back(self):
        ledger = filled(BesideLedger, DEALING, [("bill", "ann", 5, None), ("bill", "bob", 4, None)])
        told, deeds = [what_it_tells(ledger)], ((0, 6), (2, 5), (2, 5), (0, 5), (1, -3), (6, 0), (0, 9))
        for index, amount in deeds:
            ledger.correct(index, amount)
            told.append(what_it_tells(ledger))
        self.assertEqual(ledger.bills, [5, 4, 1, 4, 0, -1, -7, 7, 4])
        for _ in deeds:
            self.assertEqual(what_it_tells(ledger), told.pop())
            ledger.undo()
        self.assertEqual(what_it_tells(ledger), told.pop())
        ledger.correct(0, 7)
        self.assertEqual(ledger.bills, [5, 4, 2])


class TestErrors(unittest.TestCase):
    NAMES = ("cy", "", "Ann", "an", "annn", "ann ", " ann", "0", "a b ~", "ann=1", "~" * 3000)

    def raises(self, kind, value, call, *args):
        with self.assertRaises(errors.BillError) as raised:
            call(*args)
        self.assertIs(type(raised.exception), kind)
        self.assertEqual(raised.exception.value, value)
        self.assertIs(type(raised.exception.value), type(value))

    def test_names_of_nobody(self):
        for kind in BOTH:
            ledger = filled(kind, ODD, [("bill", "ann", 5, None)])
            for name in self.NAMES:
                self.raises(errors.UnknownPerson, name, ledger, name, 3)
                self.raises(errors.UnknownPerson, name, ledger.pay, name, "ann", 3)
                self.raises(errors.UnknownPerson, name, ledger.pay, "ann", name, 3)
                self.raises(errors.UnknownPerson, name, ledger.pay, name, name, 3)
                self.raises(errors.UnknownPerson, name, ledger.pay, name, "zz", 0)
                self.raises(errors.UnknownPerson, "zz", ledger.pay, "zz", name, -3)
            self.assertEqual(ledger, filled(kind, ODD, [("bill", "ann", 5, None)]))

    def test_indexes_of_no_bill(self):
        for kind in BOTH:
            ledger = kind(ODD)
            for many in range(4):
                for index in (-1, -many, -many - 1, many, many + 1, 200, -200):
                    if index != 0 or many == 0:
                        self.raises(errors.UnknownBill, index, ledger.correct, index, 5)
                self.assertEqual(ledger.bills, [9] * many)
                ledger("bob", 9)

    def test_nothing_to_undo(self):
        for kind in BOTH:
            ledger = kind(ODD)
            self.raises(errors.NothingToUndo, 0, ledger.undo)
            ledger("ann", 3)
            ledger.undo()
            for _ in range(3):
                self.raises(errors.NothingToUndo, 0, ledger.undo)
            self.assertEqual(ledger("ann", 3), 0)
            ledger.undo()
            self.raises(errors.NothingToUndo, 0, ledger.undo)

    def test_errors_between_deeds_change_nothing(self):
        source = random.Random(202)
        for kind in BOTH:
            for rule in some_small_rules(source, 10):
                ledger, twin = kind(rule), kind(rule)
                told = [what_it_tells(ledger)]
                for _ in range(15):
                    deed = random_deed(source, rule, len(ledger), 30)
                    do_deed(ledger, deed)
                    do_deed(twin, deed)
                    told.append(what_it_tells(ledger))
                    for _ in range(source.randint(0, 3)):
                        index = source.choice([len(ledger), -1, -len(ledger) - 1])
                        wrong = source.choice([("bill", "zz", 3, None), ("correct", index, 3, None),
                                               ("pay", "zz", "ann", 3), ("pay", "ann", "zz", 3)])
                        with self.assertRaises(errors.BillError):
                            do_deed(ledger, wrong)
                        self.assertEqual(what_it_tells(ledger), told[-1])
                        self.assertTrue(ledger == twin)
                while len(told) > 1:
                    self.assertEqual(what_it_tells(ledger), told.pop())
                    ledger.undo()
                self.raises(errors.NothingToUndo, 0, ledger.undo)
                self.assertEqual(what_it_tells(ledger), told.pop())


class TestUndo(unittest.TestCase):
    def test_deeds_are_taken_back_from_the_last_one_on(self):
        for kind in BOTH:
            ledger = filled(kind, first_rule(ANN_BOB), [("bill", "ann", 5, None), ("pay", "bob", "ann", 2)])
            self.assertIsNone(ledger.undo())
            self.assertEqual([ledger.bills, ledger.balances()], [[5], [2, -2]])
            ledger.undo()
            self.assertEqual([ledger.bills, ledger.balances()], [[], [0, 0]])

    def test_deeds_behind_what_was_taken_back(self):
        for kind in BOTH:
            ledger = filled(kind, first_rule(ANN_BOB), [("bill", "ann", 5, None), ("bill", "bob", 8, None)])
            ledger.undo()
            self.assertEqual(ledger("ann", 1), 1)
            ledger.pay("ann", "bob", 1)
            self.assertEqual([ledger.bills, ledger.balances()], [[5, 1], [6 - 4 + 1, -2 - 1]])
            for _ in range(3):
                ledger.undo()
            self.assertEqual(what_it_tells(ledger), ([], [0, 0], [0, 0], 0))
            self.assertEqual(ledger("bob", 2), 0)
            self.assertEqual(what_it_tells(ledger), ([2], [1, 1], [-1, 1], 1))

    def test_what_was_taken_back_is_not_brought_back(self):
        for kind in BOTH:
            ledger = filled(kind, first_rule(ANN_BOB), [("bill", "ann", 5, None), ("correct", 0, 9, None)])
            ledger.undo()
            ledger.undo()
            with self.assertRaises(errors.NothingToUndo):
                ledger.undo()
            self.assertEqual(ledger.bills, [])


class TestLongSequences(unittest.TestCase):
    def check(self, source, rule, kind, many, most):
        ledger, plain = kind(rule), PlainLedger(rule, kind is BesideLedger)
        for _ in range(many):
            if source.randrange(4) == 0 and len(plain.deeds) > 0:
                plain.deeds.pop()
                self.assertIsNone(ledger.undo())
            else:
                deed = random_deed(source, rule, len(ledger), most)
                changed = plain.do(deed)
                told = {"bill": len(ledger), "correct": changed, "pay": None}[deed[0]]
                self.assertEqual(do_deed(ledger, deed), told)
            self.assertEqual([ledger.bills, ledger.shares(), ledger.balances(), len(ledger)],
                             [plain.bills(), plain.shares(), plain.balances(), len(plain.bills())])
        return ledger, plain

    def test_small_rules(self):
        source = random.Random(203)
        for kind in BOTH:
            for rule in some_small_rules(source, 40):
                self.check(source, rule, kind, 40, source.choice([2, 12, 40]))

    def test_the_greatest_rules(self):
        source = random.Random(204)
        for kind in BOTH:
            rule = Rule(GREATEST, random_states(source, GREATEST, 12, -17, 17))
            self.check(source, rule, kind, 60, 10000)
            self.check(source, in_turn(GREATEST), kind, 60, 10000)

    def test_everything_is_taken_back(self):
        source = random.Random(205)
        for kind in BOTH:
            ledger, plain = self.check(source, DEALING, kind, 90, 20)
            while len(plain.deeds) > 0:
                self.assertEqual([ledger.bills, ledger.balances()], [plain.bills(), plain.balances()])
                plain.deeds.pop()
                ledger.undo()
            with self.assertRaises(errors.NothingToUndo):
                ledger.undo()
            self.assertEqual(what_it_tells(ledger), ([], [0, 0], [0, 0], 0))


class TestEquality(unittest.TestCase):
    def check(self, one, other, expected):
        """Hold two ledgers against each other either way about."""
        self.assertIs(one == other, expected)
        self.assertIs(other == one, expected)
        self.assertIs(one != other, not expected)
        self.assertIs(other != one, not expected)

    def test_equal_ledgers(self):
        deeds = [("bill", "ann", 5, None), ("correct", 0, 6, None), ("pay", "bob", "ann", 1)]
        for kind in BOTH:
            self.check(kind(ODD), kind(ODD), True)
            self.check(filled(kind, ODD, deeds), filled(kind, ODD, deeds), True)
            self.check(filled(kind, ODD, deeds), filled(kind, Rule(ODD.people, ODD.states), deeds), True)
            ledger = filled(kind, ODD, deeds)
            self.check(ledger, ledger, True)

    def test_other_rules(self):
        others = [Rule([("bob", 1), ("ann", 1)], ODD.states), Rule([("ann", 1), ("cy", 1)], ODD.states), DEALING,
                  Rule([("ann", 2), ("bob", 0)], ODD.states), first_rule(ANN_BOB), first_rule(ANN_BOB_CY)]
        for kind in BOTH:
            for other in others:
                self.check(kind(ODD), kind(other), False)
                self.check(filled(kind, ODD, [("bill", "ann", 2, None)]),
                           filled(kind, other, [("bill", "ann", 2, None)]), False)

    def test_rules_that_deal_alike_are_not_enough(self):
        copied = Rule(ANN_BOB, [[([0, 0], 1), ([1, 0], 0)], [([0, 0], 0), ([1, 0], 1)]])
        for kind in BOTH:
            self.check(kind(first_rule(ANN_BOB)), kind(copied), False)

    def test_other_bills(self):
        for kind in BOTH:
            ledger = filled(kind, ODD, [("bill", "ann", 5, None), ("bill", "ann", 3, None)])
            for amounts in ([5], [3, 5], [5, 3, 0], [5, 4], [8], []):
                self.check(ledger, filled(kind, ODD, [("bill", "ann", amount, None) for amount in amounts]), False)

    def test_who_paid(self):
        # The same bills and balances, as payments make up for it.
        for kind in BOTH:
            one = filled(kind, ODD, [("bill", "ann", 4, None), ("pay", "bob", "ann", 4)])
            other = filled(kind, ODD, [("bill", "bob", 4, None)])
            self.assertEqual([one.bills, one.balances()], [other.bills, other.balances()])
            self.check(one, other, False)
            crossed = [filled(kind, ODD, [("bill", name, 4, None) for name in names])
                       for names in (("ann", "bob"), ("bob", "ann"))]
            self.assertEqual(what_it_tells(crossed[0]), what_it_tells(crossed[1]))
            self.check(crossed[0], crossed[1], False)
            self.check(filled(kind, ODD, [("bill", "ann", 0, None)]), filled(kind, ODD, [("bill", "bob", 0, None)]),
                       False)

    def test_other_balances(self):
        for kind in BOTH:
            deeds = [("bill", "ann", 4, None)]
            one = filled(kind, ODD, deeds)
            self.check(one, filled(kind, ODD, deeds + [("pay", "ann", "bob", 1)]), False)
            self.check(one, filled(kind, ODD, deeds + [("pay", "ann", "bob", -1)]), False)
            self.check(filled(kind, ODD, deeds + [("pay", "bob", "ann", 1)]),
                       filled(kind, ODD, deeds + [("pay", "ann", "bob", 1)]), False)

    def test_payments_with_the_same_balances(self):
        for kind in BOTH:
            one = filled(kind, ODD, [("pay", "ann", "bob", 3), ("pay", "ann", "ann", 9)])
            other = filled(kind, ODD, [("pay", "bob", "ann", -2), ("pay", "ann", "bob", 1)])
            self.check(one, other, True)
            self.check(filled(kind, ODD, [("pay", "bob", "bob", 3)]), kind(ODD), True)

    def test_the_same_deeds_in_another_order(self):
        for kind in BOTH:
            deeds = [("bill", "ann", 5, None), ("pay", "ann", "bob", 3), ("bill", "bob", 2, None)]
            self.check(filled(kind, ODD, deeds), filled(kind, ODD, [deeds[1], deeds[0], deeds[2]]), True)
            self.check(filled(kind, ODD, deeds), filled(kind, ODD, [deeds[2], deeds[1], deeds[0]]), False)

    def test_deeds_that_were_taken_back(self):
        for kind in BOTH:
            deeds = [("bill", "ann", 5, None), ("pay", "ann", "bob", 3)]
            for more in (("bill", "bob", 1, None), ("correct", 0, 9, None), ("correct", 0, 5, None),
                         ("pay", "bob", "bob", 1), ("pay", "bob", "ann", 8)):
                ledger = filled(kind, ODD, deeds + [more])
                ledger.undo()
                self.check(ledger, filled(kind, ODD, deeds), True)

    def test_corrected_bills_are_equal_to_bills_that_were_right(self):
        self.check(filled(Ledger, ODD, [("bill", "ann", 5, None), ("correct", 0, 6, None)]),
                   filled(Ledger, ODD, [("bill", "ann", 6, None)]), True)
        one = filled(BesideLedger, ODD, [("bill", "ann", 5, None), ("correct", 0, 6, None)])
        other = filled(BesideLedger, ODD, [("bill", "ann", 5, None), ("bill", "ann", 1, None)])
        self.check(one, other, True)
        # What differences were written for is no part of what is held against each other.
        one.correct(0, 6)
        other.correct(0, 6)
        self.assertEqual([one.bills, other.bills], [[5, 1, 0], [5, 1, 1]])
        self.check(one, other, False)

    def test_a_ledger_beside_one_of_the_other_kind(self):
        for deeds in ([], [("bill", "ann", 5, None)], [("pay", "ann", "bob", 1)]):
            self.check(filled(Ledger, ODD, deeds), filled(BesideLedger, ODD, deeds), False)

    def test_a_ledger_beside_something_else(self):
        for kind in BOTH:
            ledger = filled(kind, ODD, [("bill", "ann", 5, None)])
            for other in (None, 0, 1, True, "ledger", [5], [], (), {}, object(), ODD, kind, Ledger, BesideLedger,
                          mock.ANY, [ledger], errors.BillError(1), what_it_tells(ledger)):
                self.assertIs(ledger == other, False)
                self.assertIs(ledger != other, True)
                self.assertFalse([ledger] == [other])

    def test_equality_changes_nothing(self):
        for kind in BOTH:
            one, other = kind(ODD), kind(ODD)
            one("ann", 5)
            for _ in range(3):
                self.check(one, other, False)
                self.assertEqual([what_it_tells(one), what_it_tells(other)],
                                 [([5], [3, 2], [2, -2], 1), ([], [0, 0], [0, 0], 0)])
            other("ann", 5)
            self.check(one, other, True)


class TestNothingIsKept(unittest.TestCase):
    def test_lists_that_the_caller_changes(self):
        for kind in BOTH:
            ledger = filled(kind, ODD, [("bill", "ann", 5, None), ("bill", "bob", 2, None), ("pay", "ann", "bob", 1)])
            before = what_it_tells(ledger)
            told = [ledger.bills, ledger.bills, ledger.shares(), ledger.shares(), ledger.balances(), ledger.balances()]
            self.assertTrue(all_apart(*told))
            spoil(told)
            self.assertEqual(what_it_tells(ledger), before)
            spoil(ledger.correct(0, 7))
            self.assertEqual(ledger.shares(), ODD.shares(ledger.bills))
            ledger.undo()
            self.assertEqual(what_it_tells(ledger), before)

    def test_two_ledgers_of_one_rule(self):
        source = random.Random(206)
        for first in BOTH:
            for second in BOTH:
                ledgers = [first(DEALING), second(DEALING)]
                plains = [PlainLedger(DEALING, kind is BesideLedger) for kind in (first, second)]
                for _ in range(40):
                    at = source.randrange(2)
                    if source.randrange(3) == 0 and len(plains[at].deeds) > 0:
                        plains[at].deeds.pop()
                        ledgers[at].undo()
                    else:
                        deed = random_deed(source, DEALING, len(ledgers[at]), 9)
                        plains[at].do(deed)
                        do_deed(ledgers[at], deed)
                    for ledger, plain in zip(ledgers, plains):
                        self.assertEqual([ledger.bills, ledger.balances()], [plain.bills(), plain.balances()])
        self.assertEqual(DEALING.states, [[([0, 0], 1), ([1, 0], 0)], [([3, -3], 0), ([0, 1], 1)]])

    def test_questions_are_not_deeds(self):
        for kind in BOTH:
            ledger = filled(kind, ODD, [("bill", "ann", 5, None), ("bill", "ann", 3, None)])
            for _ in range(3):
                what_it_tells(ledger)
            ledger.undo()
            self.assertEqual(ledger.bills, [5])


class TestGreatestLedgers(unittest.TestCase):
    LONGEST = 0.02

    def test_200_calls(self):
        source = random.Random(207)
        for kind in BOTH:
            for rule in (ODD, in_turn(GREATEST), Rule(GREATEST, random_states(source, GREATEST, 12, -17, 17))):
                names = [name for name, _ in rule.people]
                bills = [(source.choice(names), source.randint(-10000, 10000)) for _ in range(190)]
                ledger = kind(rule)
                self.assertEqual([ledger(name, amount) for name, amount in bills], list(range(190)))
                expected = [amount for _, amount in bills]
                for index in (0, 189, 100, 0, 7):
                    amount = source.randint(-10000, 10000)
                    ledger.correct(index, amount)
                    if kind is Ledger:
                        expected[index] = amount
                self.assertEqual(ledger.bills[1:7], [amount for _, amount in bills][1:7])
                self.assertEqual(len(ledger), 190 if kind is Ledger else 195)
                self.assertEqual(ledger.bills[:190], expected)
                self.assertEqual(ledger.shares(), rule.shares(ledger.bills))

    def test_how_long_calls_take(self):
        source = random.Random(208)
        for kind in BOTH:
            rule = Rule(GREATEST, random_states(source, GREATEST, 12, -17, 17))
            ledger = kind(rule)
            for _ in range(200):
                ledger(source.choice(rule.people)[0], source.randint(-10000, 10000))
            twin = kind(rule)
            for amount in ledger.bills:
                twin("ann", amount)
            calls = [ledger.shares, ledger.balances, lambda: ledger.bills, lambda: len(ledger), lambda: ledger == twin,
                     lambda: ledger("ann", 5), lambda: ledger.pay("hal", "ann", 5), lambda: ledger.correct(199, 7),
                     lambda: ledger.correct(0, 7), ledger.undo]
            for call in calls:
                self.assertLess(seconds(call), self.LONGEST)


if __name__ == "__main__":
    unittest.main()
