"""What the document promises over the whole program: all modules together."""

import copy
import random
import unittest

from owedafresh.changes import changes, judge_changes, lowered, pairs
from owedafresh.differences import (bounds, greatest, greatest_bills, growing, judge_bounds, lowest, lowest_bills,
                                    sinking)
from owedafresh.errors import BillError
from owedafresh.ledgers import BesideLedger, Ledger
from owedafresh.payments import fewest, groups, payments, settles
from owedafresh.readings import read_bills, read_rule
from owedafresh.rules import Rule, anew, beside, by_rows, in_turn
from owedafresh.texts import show_bills, show_rule
from owedafresh.wholes import first_unlike, is_whole, judge, least, rows, unlike
from tests.helper import (ANN_BOB, ANN_BOB_CY, all_apart, do_deed, first_rule, long_rule, random_deed, random_rows,
                          random_states, reached, short_lists, some_small_rules, spoil, what_it_tells, with_copies)

ODD = [[([0, 0], 0), ([1, 0], 1)], [([0, 0], 0), ([0, 1], 1)]]


def some_bills():
    """New lists of bills."""
    return [[], [0], [1], [-1], [3, -7, 0, 2], [1, 1, 1, 5, -10000], [100, 100]]


def told_by(call, *args):
    """What a call returns, or the class and the value of its error."""
    try:
        return call(*args)
    except BillError as error:
        return type(error), error.value


def after_deeds(kind, rule, deeds):
    """What a ledger of this kind tells after each of some deeds."""
    ledger, told = kind(rule), []
    for deed in deeds:
        told.append((told_by(do_deed, ledger, deed), what_it_tells(ledger)))
    return told


def deeds_for(rule):
    """Some deeds for a ledger, two of them wrong."""
    first, last = rule.people[0][0], rule.people[-1][0]
    return [("bill", first, 5, None), ("bill", last, -4, None), ("correct", 0, 6, None), ("bill", "zz", 1, None),
            ("correct", 1, 0, None), ("pay", last, first, 3), ("correct", 9, 0, None), ("correct", 0, 6, None)]


def questions(rule, other):
    """All questions that a rule may be asked, as tuples of a call and its other arguments, beside another rule."""
    asked = [(call, bills) for call in (rule.shares, rule.state) for bills in some_bills()]
    for name in [name for name, _ in rule.people] + ["zz"]:
        asked += [(rule.__getitem__, name)]
        for call in (greatest, lowest, bounds, changes, greatest_bills, lowest_bills, growing, sinking, lowered):
            asked.append((call, rule, name))
        asked.append((judge_bounds, rule, name, told_by(bounds, other, name)))
        asked.append((judge_bounds, rule, name, [(state, None, None) for state in reached(other)]))
        asked.append((judge_changes, rule, name, [pair + (None, None) for pair in pairs(other)]))
        asked.append((judge_changes, rule, name, [pair + (-1, 2) for pair in pairs(other)]))
    for call in (anew, beside):
        asked += [(call, rule, bills, index, 4) for index in (0, 1, 4, -1) for bills in some_bills()]
    for call in (is_whole, rows, unlike, least, pairs, show_rule, len):
        asked.append((call, rule))
    asked += [(judge, rule, other.shares([5])), (judge, rule, [extras for extras, _ in other.states[0]])]
    asked += [(first_unlike, rule, other), (first_unlike, other, rule), (first_unlike, rule, first_rule(other.people))]
    asked += [(lambda: rule.people,), (lambda: rule.states,), (lambda: rule.weight,), (lambda: rule == other,),
              (lambda: other == rule,), (lambda: rule == first_rule(other.people),)]
    for kind in (Ledger, BesideLedger):
        asked.append((after_deeds, kind, rule, deeds_for(other)))
        asked.append((lambda kind=kind: kind(rule) == kind(other),))
    return asked


def made_rules(source):
    """Rules as all functions of the program return them, and ones that are constructed."""
    found = []
    for rule in some_small_rules(source, 4) + [long_rule(), first_rule(ANN_BOB_CY), Rule(ANN_BOB, ODD)]:
        found += [rule, least(rule), read_rule(show_rule(rule)), least(read_rule(show_rule(rule)))]
    for people in (ANN_BOB, [("ann", 2), ("bob", 1)], [("ann", 1), ("bob", 0)]):
        table = by_rows(people, random_rows(source, people, -1, 2))
        found += [table, in_turn(people), least(with_copies(source, table, 4)), read_rule(show_rule(in_turn(people)))]
    return found


class TestRulesOfAllOrigins(unittest.TestCase):
    def ask(self, question, twin):
        """Ask a rule and its twin the same question, and change what they told, and what they were told."""
        call, *args = question
        twin_call, *twin_args = twin
        told, expected = told_by(call, *args), told_by(twin_call, *twin_args)
        self.assertEqual(told, expected, call)
        if isinstance(told, Rule):
            told, expected = told.states, expected.states
        self.assertTrue(all_apart(told, expected, args, twin_args), call)
        spoil([told, expected, args, twin_args])

    def check(self, source, rule, other):
        """Ask all questions by turns, each twice, beside a rule that is made for some of them just then."""
        order = list(range(len(questions(rule, other))))
        for _ in range(2):
            source.shuffle(order)
            for start in range(0, len(order), 10):
                fresh = Rule(copy.deepcopy(other.people), copy.deepcopy(other.states))
                asked, twins = questions(rule, other), questions(fresh, other)
                for at in order[start:start + 10]:
                    self.ask(asked[at], twins[at])

    def test_they_answer_as_constructed_ones_do(self):
        source = random.Random(401)
        for rule in made_rules(source):
            self.check(source, rule, Rule(rule.people, rule.states))

    def test_questions_change_no_answer_of_another_rule(self):
        source = random.Random(402)
        found = made_rules(source)
        for _ in range(600):
            rule = source.choice(found)
            call, *args = source.choice(questions(rule, rule))
            spoil(told_by(call, *args))
        for rule, twin in zip(found, made_rules(random.Random(402))):
            self.assertEqual(rule, twin)
            self.assertEqual(rule.states, twin.states)

    def test_greater_rules_are_read_shown_and_asked_by_their_methods(self):
        source = random.Random(403)
        people = [("ann", 1), ("bob", 0), ("cy", 2), ("dee", 1), ("eve", 3), ("fay", 1), ("gus", 0), ("hal", 4)]
        for rule in (Rule(people, random_states(source, people, 12, -12, 12)), in_turn(people)):
            again = read_rule(show_rule(rule))
            self.assertEqual([again, again.weight, len(again)], [rule, 12, len(rule)])
            for _ in range(20):
                bills = read_bills(show_bills([source.randint(-10000, 10000) for _ in range(40)]))
                index, amount = source.randrange(40), source.randint(-10000, 10000)
                for call in (anew, beside):
                    self.assertEqual(call(again, bills, index, amount), call(rule, bills, index, amount))
                self.assertEqual([again.shares(bills), again.state(bills)], [rule.shares(bills), rule.state(bills)])


class TestWholeRulesAndCorrections(unittest.TestCase):
    def ledgers(self, rule, bills, corrections):
        """The shares of both kinds of ledgers behind the same bills and corrections."""
        told = []
        for kind in (Ledger, BesideLedger):
            ledger = kind(rule)
            for amount in bills:
                ledger(rule.people[0][0], amount)
            for index, amount in corrections:
                ledger.correct(index, amount)
            told.append((ledger.shares(), ledger.balances()))
        return told

    def some_correction_apart(self, rule):
        """Whether some correction of some short list has other shares anew than beside."""
        for bills in short_lists(rule.weight, 4):
            for index in range(len(bills)):
                for amount in range(rule.weight):
                    one, other = self.ledgers(rule, bills, [(index, amount)])
                    if one != other:
                        return True
        return False

    def test_they_lead_to_the_same_shares_exactly_if_the_rule_is_whole(self):
        found = {True: 0, False: 0}
        for rule in some_small_rules(random.Random(404), 50):
            # Greater whole weights take too long here.
            if rule.weight <= 2:
                self.assertEqual(self.some_correction_apart(rule), not is_whole(rule), show_rule(rule))
                found[is_whole(rule)] += 1
        self.assertGreater(min(found.values()), 8)

    def test_many_corrections_of_whole_rules(self):
        source = random.Random(405)
        for _ in range(30):
            people = [("ann", source.randrange(3)), ("bob", source.randrange(1, 4)), ("cy", source.randrange(3))]
            rule = with_copies(source, by_rows(people, random_rows(source, people)), 9)
            bills = [source.randint(-10000, 10000) for _ in range(source.randint(1, 20))]
            corrections = [(source.randrange(len(bills)), source.randint(-10000, 10000)) for _ in range(20)]
            one, other = self.ledgers(rule, bills, corrections)
            self.assertEqual(one, other)


class TestLedgersAndRules(unittest.TestCase):
    def test_shares_are_those_that_the_rule_tells_of_the_bills(self):
        source = random.Random(406)
        for rule in made_rules(source):
            for kind in (Ledger, BesideLedger):
                ledger = kind(rule)
                for _ in range(12):
                    before = ledger.bills
                    deed = random_deed(source, rule, len(ledger), 10000)
                    told = do_deed(ledger, deed)
                    self.assertEqual(ledger.shares(), rule.shares(ledger.bills))
                    self.assertEqual(read_bills(show_bills(ledger.bills)), ledger.bills)
                    if deed[0] == "correct":
                        changed = [new - old for old, new in zip(rule.shares(before), rule.shares(ledger.bills))]
                        self.assertEqual(told, changed)
                    if deed[0] == "correct" and kind is Ledger:
                        self.assertEqual(ledger.shares(), anew(rule, before, deed[1], deed[2]))

    def test_the_first_correction_beside(self):
        source = random.Random(407)
        for rule in made_rules(source):
            bills = [source.randint(-50, 50) for _ in range(5)]
            ledger = BesideLedger(rule)
            for amount in bills:
                ledger(rule.people[-1][0], amount)
            index, amount = source.randrange(5), source.randint(-50, 50)
            ledger.correct(index, amount)
            self.assertEqual(ledger.shares(), beside(rule, bills, index, amount))
            self.assertEqual(ledger.bills, bills + [amount - bills[index]])

    def test_payments_settle_the_balances_of_ledgers(self):
        source = random.Random(408)
        people = [("ann", 1), ("bob", 0), ("cy", 2), ("dee", 1), ("eve", 3), ("fay", 1), ("gus", 0), ("hal", 4)]
        for rule in made_rules(source)[:12] + [in_turn(people)]:
            for kind in (Ledger, BesideLedger):
                ledger = kind(rule)
                for _ in range(15):
                    do_deed(ledger, random_deed(source, rule, len(ledger), 900))
                balances = ledger.balances()
                told = payments(balances)
                self.assertTrue(settles(balances, told))
                self.assertEqual([len(told), ledger.balances()], [fewest(balances), balances])
                self.assertEqual(sum(len(group) - 1 for group in groups(balances)), len(told))
                names = [name for name, _ in rule.people]
                for payer, receiver, amount in told:
                    ledger.pay(names[payer], names[receiver], amount)
                self.assertEqual(ledger.balances(), [0] * len(names))
                for _ in told:
                    ledger.undo()
                self.assertEqual(ledger.balances(), balances)

    def test_what_the_program_tells_may_be_written(self):
        odd = Rule(ANN_BOB, ODD)
        bills, index = lowered(odd, "ann")
        ledger = Ledger(odd)
        for amount in bills:
            ledger("bob", amount)
        self.assertLess(ledger.correct(index, bills[index] + 1)[0], 0)
        one, other = unlike(first_rule(ANN_BOB))
        shares = []
        for told in (one, other):
            ledger = Ledger(first_rule(ANN_BOB))
            for amount in told:
                ledger("ann", amount)
            shares.append(ledger.shares())
        self.assertNotEqual(shares[0], shares[1])


class TestToldListsThatAreChanged(unittest.TestCase):
    def test_lists_that_are_changed_behind_each_question(self):
        people, states, told_rows = list(ANN_BOB), copy.deepcopy(ODD), [[0, 0], [1, 0]]
        rule, table, turn = Rule(people, states), by_rows(people, told_rows), in_turn(people)
        spoil([people, states])
        self.assertEqual([rule, table, turn], [Rule(ANN_BOB, ODD), in_turn(ANN_BOB), in_turn(ANN_BOB)])
        self.assertEqual(judge(table, told_rows), True)
        told_rows[1].reverse()
        self.assertEqual([judge(table, told_rows), rows(table)], [False, [[0, 0], [1, 0]]])
        ends = bounds(turn, "ann")
        self.assertTrue(judge_bounds(turn, "ann", ends))
        ends.pop()
        self.assertFalse(judge_bounds(turn, "ann", ends))
        ends = [(0, 1, 1, 1), (1, 0, 0, 0)]
        self.assertTrue(judge_changes(turn, "ann", ends))
        ends[0] = (0, 1, 0, 0)
        self.assertFalse(judge_changes(turn, "ann", ends))
        balances = [3, -3]
        told = payments(balances)
        self.assertTrue(settles(balances, told))
        balances[0], balances[1] = 4, -4
        self.assertFalse(settles(balances, told))
        told.clear()
        self.assertFalse(settles(balances, told))
        self.assertEqual(payments(balances), [(1, 0, 4)])

    def test_bills_that_are_changed_behind_each_question(self):
        rule, bills = Rule(ANN_BOB, ODD), [1, 1]
        for more in (1, 0, -5):
            expected = list(bills)
            self.assertEqual([rule.shares(bills), rule.state(bills), show_bills(bills)],
                             [rule.shares(expected), rule.state(expected), " ".join(map(str, expected))])
            self.assertEqual([anew(rule, bills, 0, 3), beside(rule, bills, 0, 3)],
                             [rule.shares([3] + expected[1:]), rule.shares(expected + [2])])
            bills.append(more)


if __name__ == "__main__":
    unittest.main()
