"""Points [1] and [2]: the fewest payments that settle balances, of the head owedafresh/payments.py."""

import random
import unittest
from itertools import product

from owedafresh import errors
from owedafresh.payments import fewest, groups, payments, settles
from tests.helper import all_apart, spoil, unchanged_by

PARTED = [10, -1, -2, -3, -4, 7, -7, 0]


def even_balances(source, many, most):
    """Balances of so many people, with the sum 0 and, but for the last one, from the negative of the most to it."""
    found = [source.randint(-most, most) for _ in range(many - 1)]
    return found + [-sum(found)]


def plain_fewest(balances):
    """The fewest payments of any amounts, from anybody to anybody else, by a search one payment after the other."""
    most = sum(amount for amount in balances if amount > 0)
    found, many = {tuple(balances)}, 0
    while not any(not any(left) for left in found):
        further = set()
        for left, payer, receiver, amount in product(found, range(len(balances)), range(len(balances)),
                                                     range(1, most + 1)):
            if payer != receiver:
                after = list(left)
                after[payer] += amount
                after[receiver] -= amount
                further.add(tuple(after))
        found, many = further, many + 1
    return many


def partings(indexes):
    """All ways to part indexes into groups."""
    if not indexes:
        yield []
        return
    for rest in partings(indexes[1:]):
        yield [[indexes[0]]] + rest
        for at, group in enumerate(rest):
            yield rest[:at] + [[indexes[0]] + group] + rest[at + 1:]


def plain_most(balances):
    """As many groups with the sum 0 as there can be, out of all ways to part those who owe or are owed."""
    indexes = [index for index, amount in enumerate(balances) if amount]
    return max(len(parting) for parting in partings(indexes)
               if not any(sum(balances[index] for index in group) for group in parting))


class TestExamples(unittest.TestCase):
    def test_the_examples_of_the_document(self):
        balances = [5, -5, 7, -3, -4, 0]
        self.assertEqual([fewest(balances), len(groups(balances)), settles(balances, payments(balances)),
                          len(payments(balances)), settles(balances, [(1, 0, 5), (3, 2, 3), (4, 2, 4)])],
                         [3, 2, True, 3, True])
        self.assertEqual([fewest([0, 0]), payments([]), settles([1, -1], [(0, 1, 1)]),
                          settles([1, -1], [(1, 0, 2), (0, 1, 1)])], [0, [], False, True])


class TestFewest(unittest.TestCase):
    def check(self, balances, many):
        """Hold what is told of balances against the fewest payments that settle them."""
        self.assertEqual(fewest(balances), many)
        self.assertIs(type(fewest(balances)), int)
        told = groups(balances)
        self.assertIs(type(told), list)
        self.assertTrue(all(type(group) is list and group for group in told))
        owed = [index for index, amount in enumerate(balances) if amount]
        self.assertEqual(sorted(index for group in told for index in group), owed)
        self.assertFalse(any(sum(balances[index] for index in group) for group in told))
        self.assertEqual(len(told), len(owed) - many)
        self.check_payments(balances, many)

    def check_payments(self, balances, many):
        told = payments(balances)
        self.assertIs(type(told), list)
        self.assertEqual(len(told), many)
        self.assertIs(settles(balances, told), True)
        left = list(balances)
        for each in told:
            self.assertIs(type(each), tuple)
            payer, receiver, amount = each
            self.assertEqual([type(part) for part in each], [int, int, int])
            self.assertTrue(balances[payer] < 0 < balances[receiver] and amount >= 1)
            left[payer] += amount
            left[receiver] -= amount
        self.assertFalse(any(left))

    def test_no_balances_and_balances_of_0(self):
        for many in range(9):
            self.check([0] * many, 0)
        self.assertEqual([groups([]), groups([0, 0]), payments([0])], [[], [], []])

    def test_two_and_three_people(self):
        self.check([1, -1], 1)
        self.check([-10000, 10000], 1)
        self.check([0, 3, 0, -3], 1)
        self.check([3, -1, -2], 2)
        self.check([-3, 1, 2], 2)
        self.assertEqual(payments([0, -3, 3]), [(1, 2, 3)])

    def test_pairs_and_greater_groups(self):
        self.check([1, -1, 1, -1, 1, -1, 1, -1], 4)
        self.check([1, 1, 1, 1, -1, -1, -1, -1], 4)
        self.check([4, -1, -1, -1, -1], 4)
        self.check(PARTED, 5)
        self.check([3, 3, -2, -2, -2, 5, -5], 5)
        self.check([10000, 10000, 10000, 10000, -9999, -10001, -9998, -10002], 6)
        self.check([1, 2, 4, 8, 16, 32, 64, -127], 7)

    def test_what_goes_the_straight_way_takes_more(self):
        # To take the greatest ones first, or whoever stands first, would part one pair in these.
        self.check([6, -5, -4, 5, 4, -6], 3)
        self.check([9, 8, -5, -4, -7, -1], 4)
        self.check([7, 6, 5, -8, -4, -6], 4)
        self.check([8, 6, -7, -5, -1, -1], 4)

    def test_small_balances_against_a_plain_search(self):
        for many in range(1, 4):
            for start in product(range(-3, 4), repeat=many - 1):
                balances = list(start) + [-sum(start)]
                self.check(balances, plain_fewest(balances))
        source = random.Random(101)
        for _ in range(12):
            balances = even_balances(source, 4, 2)
            self.check(balances, plain_fewest(balances))

    def test_against_all_ways_to_part_them(self):
        source = random.Random(102)
        for _ in range(60):
            balances = even_balances(source, source.randint(1, 7), source.choice([2, 4, 9]))
            self.check(balances, len([amount for amount in balances if amount]) - plain_most(balances))

    def test_the_greatest_sizes(self):
        source = random.Random(103)
        for _ in range(6):
            balances = even_balances(source, 8, source.choice([3, 5, 1400]))
            self.check(balances, len([amount for amount in balances if amount]) - plain_most(balances))


class TestCalls(unittest.TestCase):
    def test_uneven_balances(self):
        for balances in ([1], [-1], [1, 1, -1], [5, -6], [0, 0, 10000], [-10000] * 8, [10000] * 8, [3, -1, -1, 0]):
            for function in (fewest, groups, payments):
                with self.assertRaises(errors.NotEven) as raised:
                    function(balances)
                self.assertIs(type(raised.exception), errors.NotEven)
                self.assertIs(type(raised.exception.value), int)
                self.assertEqual(raised.exception.value, sum(balances))
                self.assertTrue(unchanged_by(function, balances))

    def test_arguments_stay_as_they_were(self):
        for function in (fewest, groups, payments):
            self.assertTrue(unchanged_by(function, PARTED))
        balances = list(PARTED)
        told = payments(balances)
        self.assertTrue(unchanged_by(settles, balances, told))
        self.assertTrue(unchanged_by(settles, balances, told[1:]))
        balances[0] += 1
        told[0] = (1, 1, 1)
        self.assertEqual([fewest(PARTED), settles(PARTED, payments(PARTED))], [5, True])

    def test_arguments_by_name(self):
        self.assertEqual([fewest(balances=[2, -2]), groups(balances=[0]), payments(balances=[2, -2])],
                         [1, [], [(1, 0, 2)]])
        self.assertIs(settles(told=[(1, 0, 2)], balances=[2, -2]), True)

    def test_lists_are_new(self):
        for function in (groups, payments):
            for balances in (PARTED, [0], []):
                told, again = function(balances), function(balances)
                self.assertTrue(all_apart(told, again, balances))
                spoil(told)
                self.assertEqual(function(balances), again)


class TestSettles(unittest.TestCase):
    BALANCES = [5, -5, 7, -3, -4, 0]
    TOLD = [(1, 0, 5), (3, 2, 3), (4, 2, 4)]

    def check(self, told, expected):
        self.assertIs(settles(self.BALANCES, told), expected)

    def test_right_payments_in_any_order_and_by_any_way(self):
        self.check(self.TOLD, True)
        self.check(self.TOLD[::-1], True)
        self.check([(1, 5, 5), (5, 0, 5), (3, 2, 3), (4, 2, 4)], True)
        self.check([(1, 0, 2), (1, 0, 3), (3, 2, 3), (4, 2, 4)], True)
        self.check([(1, 2, 5), (3, 2, 2), (3, 0, 1), (4, 0, 4)], True)
        self.check(self.TOLD + [(0, 1, 9), (1, 0, 9)], True)
        self.check([(1, 0, 10005), (0, 1, 10000), (3, 2, 3), (4, 2, 4)], True)

    def test_one_cent_more_or_less(self):
        for at in range(3):
            for more in (1, -1):
                told = list(self.TOLD)
                told[at] = told[at][:2] + (told[at][2] + more,)
                self.check(told, False)

    def test_a_payment_that_lacks_or_is_one_too_many(self):
        self.check([], False)
        for at in range(3):
            self.check(self.TOLD[:at] + self.TOLD[at + 1:], False)
            self.check(self.TOLD + [self.TOLD[at]], False)
        self.check(self.TOLD + [(0, 5, 1)], False)
        self.check(self.TOLD * 20, False)

    def test_payments_the_wrong_way_round(self):
        self.check([(receiver, payer, amount) for payer, receiver, amount in self.TOLD], False)

    def test_payments_to_oneself(self):
        for index in range(6):
            for amount in (1, 5, 0, -1):
                self.check(self.TOLD + [(index, index, amount)], False)
                self.check([(index, index, amount)] + self.TOLD, False)

    def test_amounts_below_1(self):
        self.check(self.TOLD + [(0, 1, 0)], False)
        self.check([(0, 1, -5), (3, 2, 3), (4, 2, 4)], False)
        self.check([(1, 0, 6), (1, 0, -1), (3, 2, 3), (4, 2, 4)], False)
        self.assertIs(settles([0, 0], [(0, 1, 0)]), False)

    def test_indexes_that_are_none(self):
        for wrong in (-1, -6, 6, 7, 20000, -20000):
            self.check(self.TOLD + [(wrong, 0, 1)], False)
            self.check(self.TOLD + [(0, wrong, 1)], False)
            self.check(self.TOLD + [(wrong, wrong, 1)], False)
        # Counted from the end, these would settle the balances.
        self.check([(-5, 0, 5), (3, 2, 3), (4, 2, 4)], False)
        self.check([(1, -6, 5), (3, 2, 3), (4, 2, 4)], False)
        self.check([(1, 0, 5), (3, 2, 3), (4, -4, 4)], False)
        self.check(self.TOLD + [(0, -6, 3)], False)
        self.assertIs(settles([5, -5], [(-1, 0, 5)]), False)
        self.assertIs(settles([-5, 5], [(0, -1, 5)]), False)
        self.assertIs(settles([], [(0, 1, 1)]), False)
        self.assertIs(settles([], [(0, 0, 1)]), False)

    def test_uneven_balances(self):
        for balances in ([1], [1, -2], [0, 0, 5]):
            self.assertIs(settles(balances, []), False)
            self.assertIs(settles(balances, [(1, 0, 1)]), False)
        self.assertIs(settles([1, -2], [(1, 0, 2)]), False)

    def test_no_payments(self):
        for many in range(9):
            self.assertIs(settles([0] * many, []), True)
        self.assertIs(settles([1, -1], []), False)

    def test_against_a_plain_sum(self):
        source = random.Random(104)
        count = {True: 0, False: 0}
        for _ in range(400):
            balances = even_balances(source, source.randint(2, 4), 2)
            told = [(source.randint(0, len(balances) - 1), source.randint(0, len(balances) - 1), source.randint(0, 2))
                    for _ in range(source.randint(0, 2))]
            if source.random() < 0.5:
                told = payments(balances)
            received = [sum(amount for _, receiver, amount in told if receiver == index)
                        - sum(amount for payer, _, amount in told if payer == index) for index in range(len(balances))]
            expected = received == balances and all(one != other and amount >= 1 for one, other, amount in told)
            count[expected] += 1
            self.assertIs(settles(balances, told), expected)
        self.assertTrue(min(count.values()) > 50, count)


if __name__ == "__main__":
    unittest.main()
