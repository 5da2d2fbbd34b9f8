"""Points [5], [7] and [9]: changes of shares by one cent more, of the head owedafresh/changes.py."""

import random
import unittest

from owedafresh import errors
from owedafresh.changes import changes, judge_changes, lowered, pairs
from owedafresh.rules import Rule, anew, by_rows, in_turn
from tests.helper import (ANN_BOB, ANN_BOB_CY, all_apart, first_rule, plain_shares, random_rows, random_states, reached,
                          short_lists, some_small_rules, spoil, unchanged_by, with_copies)

FOUR = [("ann", 1), ("bob", 0), ("cy", 2), ("dee", 3)]
ODD = [[([0, 0], 0), ([1, 0], 1)], [([0, 0], 0), ([0, 1], 1)]]
# A bill of 1 leads to state 1, in which ann bears a cent less of each bill from then on; one of 0 leads to state 2.
APART = [[([0, 0], 2), ([1, 0], 1)], [([-1, 1], 1), ([0, 1], 1)], [([0, 0], 2), ([1, 0], 2)]]


def names(rule):
    return [name for name, _ in rule.people]


def plain_changes(rule, name, most):
    """All changes of somebody's share over lists of at most so many bills, and the pairs of states, cent by cent."""
    place = names(rule).index(name)
    people, states = rule.people, rule.states
    found, places = [], set()
    for bills in short_lists(rule.weight, most):
        shares, state = plain_shares(people, states, bills)
        for index in range(len(bills)):
            others, other = plain_shares(people, states, bills[:index] + [bills[index] + 1] + bills[index + 1:])
            found.append(others[place] - shares[place])
            places.add((state, other))
    return found, sorted(places)


def tiny_rules(source, many):
    """Rules of two states and a whole weight of 2, for which lists of four bills show all there is to see."""
    found = []
    while len(found) < many:
        people = source.choice([ANN_BOB, [("ann", 2), ("bob", 0)], ANN_BOB + [("cy", 0)]])
        found += [Rule(people, random_states(source, people, many, 0, 1)) for many in (1, 2, 2, 2, 2)]
        found.append(by_rows(people, random_rows(source, people, -2, 2)))
    return found


def plain_is_endless(rule, name):
    """Whether some bills lead from a pair of states back to it and change the difference of the two shares."""
    place, states = names(rule).index(name), rule.states
    _, places = plain_changes(rule, name, len(rule) ** 2)
    for start in places:
        for bills in short_lists(rule.weight, len(rule) ** 2):
            (one, other), total = start, 0
            for rest in bills:
                total += states[other][rest][0][place] - states[one][rest][0][place]
                one, other = states[one][rest][1], states[other][rest][1]
            if (one, other) == start and total != 0:
                return True
    return False


class TestExamples(unittest.TestCase):
    def test_the_examples_of_the_document(self):
        first, turn, odd = first_rule(ANN_BOB), in_turn(ANN_BOB), Rule(ANN_BOB, ODD)
        self.assertEqual([changes(turn, "ann"), changes(first, "ann"), lowered(first, "bob"), pairs(turn), pairs(odd)],
                         [(0, 1), (0, 1), None, [(0, 1), (1, 0)], [(0, 0), (0, 1), (1, 0), (1, 1)]])
        self.assertEqual(
            [changes(odd, "ann"), changes(odd, "bob"), judge_changes(turn, "ann", [(0, 1, 1, 1), (1, 0, 0, 0)]),
             judge_changes(turn, "ann", [(0, 1, 0, 1), (1, 0, 0, None)]), judge_changes(turn, "ann", [(0, 1, 1, 1)])],
            [(-1, 2), (-1, 2), True, False, False])
        bills, index = lowered(odd, "ann")
        self.assertEqual([anew(odd, bills, index, bills[index] + 1)[0] < odd.shares(bills)[0]], [True])


class TestChanges(unittest.TestCase):
    def check_lowered(self, rule, name, told):
        self.assertIs(type(told), tuple)
        bills, index = told
        self.assertIs(type(bills), list)
        self.assertEqual({type(bill) for bill in bills} | {type(index)}, {int})
        self.assertTrue(0 <= index < len(bills))
        place = names(rule).index(name)
        self.assertLess(anew(rule, bills, index, bills[index] + 1)[place], rule.shares(bills)[place])

    def check(self, rule, name, told):
        """Hold what is told of somebody against the least and the greatest change."""
        self.assertEqual(changes(rule, name), told)
        self.assertIs(type(changes(rule, name)), tuple)
        low, _ = told
        if low is None or low < 0:
            self.check_lowered(rule, name, lowered(rule, name))
        else:
            self.assertIsNone(lowered(rule, name))

    def test_rules_in_turn_change_no_share_by_more_than_one_cent(self):
        for people in (ANN_BOB, ANN_BOB_CY, FOUR, [("ann", 3), ("bob", 2), ("cy", 1)], [("ann", 2), ("bob", 0)]):
            rule = in_turn(people)
            for name, weight in people:
                low, high = (0 if weight < rule.weight else 1), (1 if weight > 0 else 0)
                self.check(rule, name, (low, high))
            whole = rule.weight
            self.assertEqual(pairs(rule), sorted((rest, (rest + 1) % whole) for rest in range(whole)))

    def test_tables(self):
        source = random.Random(91)
        for _ in range(40):
            people = source.choice([ANN_BOB, ANN_BOB_CY, FOUR])
            table = random_rows(source, people, -50, 50)
            rule = with_copies(source, by_rows(people, table), len(table) + source.randint(0, 2))
            for place, (name, weight) in enumerate(people):
                column = [row[place] for row in table] + [weight]
                steps = [more - less for less, more in zip(column, column[1:])]
                self.check(rule, name, (min(steps), max(steps)))

    def test_one_of_the_people_alone(self):
        source = random.Random(92)
        for weight in (1, 2, 5):
            people = [("ann", weight)]
            self.check(Rule(people, random_states(source, people, 4)), "ann", (1, 1))

    def test_a_whole_weight_of_1(self):
        people = [("ann", 1), ("bob", 0)]
        rule = Rule(people, [[([0, 0], 1)], [([7, -7], 2)], [([-9, 9], 1)]])
        self.check(rule, "ann", (1, 1))
        self.check(rule, "bob", (0, 0))
        self.assertEqual(pairs(rule), [(1, 1), (2, 2)])

    def test_rounds_that_make_a_change_ever_greater_or_less(self):
        rule = Rule(ANN_BOB, APART)
        self.check(rule, "ann", (None, None))
        self.check(rule, "bob", (None, None))
        self.assertEqual(pairs(rule), [(1, 1), (1, 2), (2, 1), (2, 2)])
        beyond = Rule(ANN_BOB + [("cy", 0)], [[(extras + [0], after) for extras, after in row] for row in APART])
        self.check(beyond, "bob", (None, None))
        self.check(beyond, "cy", (0, 0))

    def test_a_round_that_lowers_late(self):
        # The share of ann only gets less behind some bills, each of which takes one cent of what was more.
        people = [("ann", 5), ("bob", 1)]
        states = [[([0, 0], 1), ([5, -4], 2), ([5, -3], 2), ([5, -2], 2), ([5, -1], 2), ([5, 0], 2)],
                  [([rest, 0], 1) for rest in range(6)],
                  [([rest - 1, 1], 2) if rest else ([-1, 1], 2) for rest in range(6)]]
        rule = Rule(people, states)
        self.check(rule, "ann", (None, None))
        self.check(rule, "bob", (None, None))
        # Some rounds of three bills are needed, as each of them takes but one cent.
        long = Rule(people, states[:2] + [[([rest, 0], 3) for rest in range(6)], [([rest, 0], 4) for rest in range(6)],
                                          states[2]])
        far = long.states
        far[4] = [(extras, 2) for extras, _ in far[4]]
        self.check(Rule(people, far), "ann", (None, None))

    def test_rounds_that_lower_behind_other_bills_or_by_several_ones(self):
        behind = [[([0, 0], 0), ([0, 1], 1)], [([0, 0], 2), ([1, 0], 1)], [([1, -1], 2), ([1, 0], 2)]]
        several = [[([0, 0], 1), ([0, 1], 2)], [([0, 0], 1), ([0, 1], 1)], [([1, -1], 0), ([1, 0], 0)]]
        for states in (behind, several):
            self.check(Rule(ANN_BOB, states), "ann", (None, None))
            self.check(Rule(ANN_BOB, states), "bob", (None, None))
        states = [[([0, 0], 1), ([0, 1], 1), ([1, 1], 1)], [([0, 0], 2), ([1, 0], 2), ([1, 1], 2)],
                  [([0, 0], 2), ([0, 1], 2), ([1, 1], 0)], [([1, -1], 0), ([1, 0], 0), ([0, 2], 1)]]
        self.check(Rule([("ann", 2), ("bob", 1)], states), "ann", (None, None))

    def test_only_some_correction_lowers_a_share(self):
        states = first_rule(ANN_BOB_CY).states + in_turn(ANN_BOB_CY).states
        rule = Rule(ANN_BOB_CY, states)
        for name in names(rule):
            self.check(rule, name, (0, 1))
        states = [[([0, 0, 0], 1), ([0, 0, 1], 1), ([0, 1, 1], 1)], [([0, 0, 0], 1), ([1, 0, 0], 1), ([0, 1, 1], 1)]]
        rule = Rule(ANN_BOB_CY, states)
        self.check(rule, "ann", (-1, 1))
        self.check(rule, "bob", (0, 1))
        self.check(rule, "cy", (0, 1))
        late = Rule(ANN_BOB_CY, states[:1] + [[(extras, 2) for extras, _ in states[0]]] + [
            [(extras, 2) for extras, _ in states[1]]])
        self.check(late, "ann", (-1, 1))
        self.assertGreater(len(lowered(late, "ann")[0]), 2)

    def test_the_whole_weight_more_for_the_last_rest(self):
        people = [("ann", 2), ("bob", 1)]
        rule = Rule(people, [[([0, 0], 0), ([1, 0], 0), ([3, -1], 0)]])
        self.check(rule, "ann", (-1, 2))
        self.check(rule, "bob", (-1, 2))
        bills, index = lowered(rule, "ann")
        self.assertEqual(bills[index] % 3, 2)
        self.check(Rule(people, [[([0, 0], 0), ([-1, 2], 0), ([-2, 4], 0)]]), "ann", (-1, 4))

    def test_states_that_do_not_come_about_do_not_count(self):
        wild = [([9, -9], 1), ([-7, 8], 0)]
        rule = Rule(ANN_BOB, [[([0, 0], 0), ([1, 0], 2)], wild, [([0, 0], 2), ([0, 1], 0)]])
        self.check(rule, "ann", (0, 1))
        self.assertEqual(pairs(rule), [(0, 2), (2, 0)])

    def test_against_a_plain_search(self):
        count = {True: 0, False: 0}
        for rule in tiny_rules(random.Random(93), 120):
            for name in names(rule):
                # One bill that is corrected, and as many behind it as there are pairs but one, behind one ahead.
                found, places = plain_changes(rule, name, 5)
                endless = plain_is_endless(rule, name)
                count[endless] += 1
                self.check(rule, name, (None, None) if endless else (min(found), max(found)))
                self.assertEqual(pairs(rule), places)
        self.assertTrue(min(count.values()) > 20, count)

    def test_lists_of_rules_with_three_states_against_a_plain_search(self):
        source = random.Random(94)
        for _ in range(30):
            rule = Rule(ANN_BOB, random_states(source, ANN_BOB, 3, 0, source.randint(0, 1)))
            found, places = plain_changes(rule, "ann", 6)
            low, high = changes(rule, "ann")
            self.assertTrue(low is None or low <= min(found))
            self.assertTrue(high is None or high >= max(found))
            self.assertTrue(set(places) <= set(pairs(rule)))
            if low is None:
                deeper, _ = plain_changes(rule, "ann", 8)
                self.assertTrue(min(deeper) < min(found) or max(deeper) > max(found) or max(found) > 2)

    def test_no_correction_changes_a_share_by_more(self):
        source = random.Random(95)
        for _ in range(30):
            rule = Rule(FOUR, random_states(source, FOUR, source.randint(1, 6), 0, source.randint(0, 2)))
            for place, name in enumerate(names(rule)):
                low, high = changes(rule, name)
                for _ in range(10):
                    bills = [source.randint(-10000, 10000) for _ in range(source.randint(1, 40))]
                    index = source.randrange(len(bills))
                    change = anew(rule, bills, index, bills[index] + 1)[place] - rule.shares(bills)[place]
                    self.assertTrue((low is None or low <= change) and (high is None or change <= high))


class TestPairs(unittest.TestCase):
    def test_ascending_and_each_once(self):
        source = random.Random(96)
        for _ in range(30):
            rule = Rule(ANN_BOB_CY, random_states(source, ANN_BOB_CY, source.randint(1, 6)))
            told = pairs(rule)
            self.assertIs(type(told), list)
            self.assertEqual(told, sorted(set(told)))
            for pair in told:
                self.assertIs(type(pair), tuple)
                self.assertEqual([type(state) for state in pair], [int, int])
                self.assertTrue(set(pair) <= set(reached(rule)))

    def test_state_0_only_if_bills_lead_back_to_it(self):
        self.assertEqual(pairs(Rule(ANN_BOB, [[([0, 0], 1), ([1, 0], 1)], [([0, 0], 1), ([1, 0], 1)]])), [(1, 1)])
        self.assertEqual(pairs(first_rule(ANN_BOB)), [(0, 0)])
        self.assertEqual(pairs(in_turn([("ann", 1)])), [(0, 0)])

    def test_against_all_short_lists(self):
        for rule in some_small_rules(random.Random(97), 20):
            if len(rule) <= 2:
                self.assertEqual(pairs(rule), plain_changes(rule, names(rule)[0], 5)[1])


class TestCalls(unittest.TestCase):
    def test_unknown_people(self):
        rule = in_turn(ANN_BOB)
        for name in ("cy", "", "Ann", "annn", "an", "ann ", "~!{}", " "):
            for function in (changes, lowered):
                with self.assertRaises(errors.UnknownPerson) as raised:
                    function(rule, name)
                self.assertIs(type(raised.exception), errors.UnknownPerson)
                self.assertEqual(raised.exception.value, name)
            for told in ([], [(0, 1, 1, 1), (1, 0, 0, 0)], [(7, 7, 1, 0)] * 60):
                with self.assertRaises(errors.UnknownPerson) as raised:
                    judge_changes(rule, name, told)
                self.assertEqual(raised.exception.value, name)

    def test_arguments_by_name(self):
        rule = Rule(ANN_BOB, ODD)
        self.assertEqual(changes(name="bob", rule=rule), (-1, 2))
        self.assertEqual(lowered(name="bob", rule=rule), lowered(rule, "bob"))
        self.assertEqual(pairs(rule=rule), pairs(rule))
        self.assertTrue(judge_changes(told=[(0, 1, 1, 1), (1, 0, 0, 0)], name="ann", rule=in_turn(ANN_BOB)))

    def test_lists_are_new(self):
        rule = Rule(ANN_BOB, ODD)
        for function in (lambda: lowered(rule, "ann"), lambda: lowered(rule, "bob"), lambda: pairs(rule)):
            told, again = function(), function()
            self.assertTrue(all_apart(told, again, rule.states))
            spoil(told)
            self.assertEqual(function(), again)
        self.assertEqual(rule, Rule(ANN_BOB, ODD))

    def test_rules_and_people_asked_by_turns(self):
        source = random.Random(98)
        rules = [Rule(ANN_BOB_CY, random_states(source, ANN_BOB_CY, 3, 0, 1)) for _ in range(3)]
        rules += [in_turn(ANN_BOB_CY)]
        asked = [(function, rule, name) for function in (changes, lowered) for rule in rules for name in names(rule)]
        told = [function(Rule(rule.people, rule.states), name) for function, rule, name in asked]
        places = [pairs(Rule(rule.people, rule.states)) for rule in rules]
        for _ in range(3):
            order = list(range(len(asked)))
            source.shuffle(order)
            for at in order:
                function, rule, name = asked[at]
                self.assertEqual(function(rule, name), told[at])
                judge_changes(rule, name, [(0, 0, 0, None)])
            self.assertEqual([pairs(rule) for rule in rules], places)


class TestJudge(unittest.TestCase):
    def test_right_bounds(self):
        turn = in_turn(ANN_BOB_CY)
        told = [(0, 1, 1, 1), (1, 2, 0, 0), (2, 0, 0, 0)]
        self.assertIs(judge_changes(turn, "ann", told), True)
        self.assertIs(judge_changes(turn, "ann", told[::-1]), True)
        self.assertIs(judge_changes(turn, "ann", [told[1], told[2], told[0]]), True)
        self.assertIs(judge_changes(turn, "bob", told), False)
        self.assertIs(judge_changes(turn, "bob", [(0, 1, 0, 0), (1, 2, 1, 1), (2, 0, 0, 0)]), True)

    def test_ends_moved_in_and_out(self):
        turn = in_turn(ANN_BOB)
        self.assertIs(judge_changes(turn, "ann", [(0, 1, 1, 1), (1, 0, 0, 0)]), True)
        for wrong in ([(0, 1, 2, 2), (1, 0, 0, 0)], [(0, 1, 0, 0), (1, 0, 0, 0)], [(0, 1, 1, 1), (1, 0, 1, 1)],
                      [(0, 1, 1, 1), (1, 0, -1, -1)], [(0, 1, 0, 1), (1, 0, 0, 0)], [(0, 1, 1, 2), (1, 0, 0, 0)],
                      [(0, 1, 1, 1), (1, 0, -1, 0)], [(0, 1, 1, 1), (1, 0, 0, 1)], [(0, 1, 0, 1), (1, 0, 0, 1)]):
            self.assertIs(judge_changes(turn, "ann", wrong), False)
        # Bills of 1 lead from each pair to the other one, so that both have to be moved by as much.
        self.assertIs(judge_changes(turn, "ann", [(0, 1, 0, 1), (1, 0, -1, 0)]), True)
        self.assertIs(judge_changes(turn, "ann", [(0, 1, 1, 3), (1, 0, 0, 2)]), True)
        self.assertIs(judge_changes(turn, "ann", [(0, 1, -19999, 20000), (1, 0, -20000, 19999)]), True)
        odd = Rule(ANN_BOB, ODD)
        right = [(0, 0, -1, 2), (0, 1, 0, 1), (1, 0, 0, 1), (1, 1, -1, 2)]
        self.assertIs(judge_changes(odd, "ann", right), True)
        for at in range(4):
            for less, more in ((1, 0), (0, -1), (1, -1)):
                one, other, low, high = right[at]
                told = right[:at] + [(one, other, low + less, high + more)] + right[at + 1:]
                self.assertIs(judge_changes(odd, "ann", told), False)

    def test_none_as_an_end(self):
        turn, apart = in_turn(ANN_BOB), Rule(ANN_BOB, APART)
        self.assertIs(judge_changes(turn, "ann", [(0, 1, None, 1), (1, 0, None, 0)]), True)
        self.assertIs(judge_changes(turn, "ann", [(0, 1, 1, None), (1, 0, 0, None)]), True)
        self.assertIs(judge_changes(turn, "ann", [(0, 1, None, None), (1, 0, None, None)]), True)
        self.assertIs(judge_changes(turn, "ann", [(0, 1, None, 1), (1, 0, 0, 0)]), False)
        self.assertIs(judge_changes(turn, "ann", [(0, 1, 1, None), (1, 0, 0, 0)]), False)
        self.assertIs(judge_changes(turn, "ann", [(0, 1, 1, 1), (1, 0, None, 0)]), False)
        self.assertIs(judge_changes(turn, "ann", [(0, 1, 0, 1), (1, 0, 0, None)]), False)
        told = [(1, 1, 0, 1), (1, 2, 0, None), (2, 1, None, 1), (2, 2, 0, 1)]
        self.assertIs(judge_changes(apart, "ann", told), True)
        self.assertIs(judge_changes(apart, "ann", [(1, 1, 0, 1), (1, 2, 0, 20000), (2, 1, None, 1), (2, 2, 0, 1)]),
                      False)
        self.assertIs(judge_changes(apart, "ann", [(1, 1, 0, 1), (1, 2, 0, None), (2, 1, -20000, 1), (2, 2, 0, 1)]),
                      False)
        self.assertIs(judge_changes(apart, "ann", [(1, 1, None, None), (1, 2, None, None), (2, 1, None, None),
                                                   (2, 2, None, None)]), True)

    def test_pairs_that_lack_stand_twice_or_are_none(self):
        odd = Rule(ANN_BOB, ODD)
        right = [(0, 0, -1, 2), (0, 1, 0, 1), (1, 0, 0, 1), (1, 1, -1, 2)]
        self.assertIs(judge_changes(odd, "ann", []), False)
        for at in range(4):
            self.assertIs(judge_changes(odd, "ann", right[:at] + right[at + 1:]), False)
            self.assertIs(judge_changes(odd, "ann", right + [right[at]]), False)
            self.assertIs(judge_changes(odd, "ann", right[:at] + [right[at]] + right[at:]), False)
            for pair in ((2, 0), (0, 2), (-1, 0), (0, -1), (-1, -1), (20000, -20000)):
                self.assertIs(judge_changes(odd, "ann", right + [pair + (None, None)]), False)
                self.assertIs(judge_changes(odd, "ann", right[:at] + [pair + (None, None)] + right[at + 1:]), False)
        turn = in_turn(ANN_BOB)
        self.assertIs(judge_changes(turn, "ann", [(0, 1, 1, 1), (1, 0, 0, 0), (0, 0, 0, 0)]), False)
        self.assertIs(judge_changes(turn, "ann", [(0, 1, 1, 1)] * 60), False)

    def test_low_above_high(self):
        turn = in_turn(ANN_BOB)
        self.assertIs(judge_changes(turn, "ann", [(0, 1, 2, 1), (1, 0, 1, 0)]), False)
        self.assertIs(judge_changes(turn, "ann", [(0, 1, 1, 1), (1, 0, 1, -1)]), False)
        self.assertIs(judge_changes(turn, "ann", [(0, 1, 1, 0), (1, 0, 0, 0)]), False)

    def test_against_the_words_of_the_document(self):
        source = random.Random(99)
        count = {True: 0, False: 0}
        for rule in tiny_rules(source, 40) + some_small_rules(source, 20):
            places = pairs(rule)
            for name in names(rule):
                for _ in range(10):
                    told = some_told(source, rule, name, places)
                    expected = plain_judge(rule, name, told)
                    count[expected] += 1
                    self.assertIs(judge_changes(rule, name, told), expected)
        self.assertTrue(min(count.values()) > 200, count)

    def test_arguments_stay_as_they_were(self):
        turn = in_turn(ANN_BOB)
        for told in ([(1, 0, 0, 0), (0, 1, 1, 1)], [(1, 0, None, 0)], []):
            self.assertTrue(unchanged_by(judge_changes, turn, "ann", told))
            self.assertTrue(unchanged_by(judge_changes, turn, "none", told))
        told = [(1, 0, 0, 0), (0, 1, 1, 1)]
        self.assertTrue(judge_changes(turn, "ann", told))
        told.pop()
        self.assertFalse(judge_changes(turn, "ann", told))
        self.assertEqual(pairs(turn), [(0, 1), (1, 0)])


def plain_ends(rule, name, rounds):
    """For each pair the least and the greatest change over lists of few bills, by steps from pair to pair."""
    place, states, ends = names(rule).index(name), rule.states, {}

    def widen(pair, low, high):
        known = ends.get(pair, (low, high))
        ends[pair] = (min(known[0], low), max(known[1], high))

    for state in reached(rule):
        row = states[state] + [([cent + weight for cent, (_, weight) in zip(states[state][0][0], rule.people)],
                                states[state][0][1])]
        for (less, after), (more, beyond) in zip(row, row[1:]):
            widen((after, beyond), more[place] - less[place], more[place] - less[place])
    for _ in range(rounds):
        for (one, other), (low, high) in list(ends.items()):
            for (less, after), (more, beyond) in zip(states[one], states[other]):
                gain = more[place] - less[place]
                widen((after, beyond), low + gain, high + gain)
    return ends


def some_told(source, rule, name, places):
    """Told bounds of changes, right ones, such as are moved, and some with pairs too many or too few."""
    ends = plain_ends(rule, name, len(places))
    endless = plain_ends(rule, name, 2 * len(places) + 2)
    way = source.random()
    told = []
    for pair in places:
        low, high = ends[pair]
        low = None if endless[pair][0] != low or (way < 0.2) else low - (way < 0.4)
        high = None if endless[pair][1] != high or (way < 0.1) else high + (way < 0.4)
        if source.random() < 0.06:
            low = None if low is None or source.random() < 0.3 else low + source.choice((1, -1))
        if source.random() < 0.06:
            high = None if high is None or source.random() < 0.3 else high + source.choice((1, -1))
        told.append(pair + (low, high))
    if source.random() < 0.05:
        told.pop(source.randrange(len(told)))
    if source.random() < 0.05:
        told.append(source.choice(places) + (None, None))
    source.shuffle(told)
    return told


def plain_judge(rule, name, told):
    """Whether told bounds are as the document's words for judge_changes want them, one after the other."""
    if sorted(each[:2] for each in told) != pairs(rule):
        return False
    infinite = 10 ** 9
    ends = {(one, other): (-infinite if low is None else low, infinite if high is None else high)
            for one, other, low, high in told}
    if any(low > high for low, high in ends.values()):
        return False
    for pair, (low, high) in plain_ends(rule, name, 0).items():
        if low < ends[pair][0] or high > ends[pair][1]:
            return False
    place, states = names(rule).index(name), rule.states
    for (one, other), (low, high) in ends.items():
        for (less, after), (more, beyond) in zip(states[one], states[other]):
            gain = more[place] - less[place]
            if (low if low == -infinite else low + gain) < ends[(after, beyond)][0]:
                return False
            if (high if high == infinite else high + gain) > ends[(after, beyond)][1]:
                return False
    return True


if __name__ == "__main__":
    unittest.main()
