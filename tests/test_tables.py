"""by_rows and in_turn, of the head owedafresh/rules.py."""

import random
import unittest
from fractions import Fraction

from owedafresh import errors
from owedafresh.rules import Rule, by_rows, in_turn
from tests.helper import ANN_BOB, ANN_BOB_CY, all_apart, random_rows, spoil, unchanged_by

EIGHT = [("ann", 1), ("bob", 0), ("cy", 2), ("dee", 1), ("eve", 3), ("fay", 1), ("gus", 0), ("hal", 4)]


def plain_rows(people):
    """The rows of in_turn, by fractions and out of the words of the document."""
    whole = sum(weight for _, weight in people)
    rows, dealt = [[0] * len(people)], [0] * len(people)
    for cent in range(1, whole):
        most, chosen = None, None
        for place, (_, weight) in enumerate(people):
            behind = Fraction(cent * weight, whole) - dealt[place]
            if most is None or behind > most:
                most, chosen = behind, place
        dealt[chosen] += 1
        rows.append(list(dealt))
    return rows


class TestByRows(unittest.TestCase):
    def wrong(self, rows, value, people=ANN_BOB_CY):
        with self.assertRaises(errors.BillError) as raised:
            by_rows(people, rows)
        self.assertIs(type(raised.exception), errors.InvalidRow)
        self.assertEqual(raised.exception.value, value)

    def test_the_example_of_the_document(self):
        turn = by_rows(ANN_BOB_CY, [[0, 0, 0], [1, 0, 0], [1, 1, 0]])
        self.assertEqual(turn.shares([100, 100]), [67, 67, 66])
        self.assertEqual(turn.states[1], [([0, 0, 0], 1), ([0, 1, 0], 2), ([0, 1, 1], 0)])
        self.assertEqual(turn.state([100]), 1)
        self.assertEqual(turn, in_turn(ANN_BOB_CY))

    def test_all_states_of_a_small_table(self):
        rule = by_rows([("ann", 2), ("bob", 0)], [[0, 0], [-3, 4]])
        self.assertEqual(rule.people, [("ann", 2), ("bob", 0)])
        self.assertEqual(rule.states, [[([0, 0], 0), ([-3, 4], 1)], [([0, 0], 1), ([5, -4], 0)]])

    def test_one_of_the_people_alone_and_a_weight_of_1(self):
        self.assertEqual(by_rows([("ann", 1)], [[0]]), Rule([("ann", 1)], [[([0], 0)]]))
        self.assertEqual(by_rows([("ann", 0), ("bob", 1)], [[0, 0]]).shares([7]), [0, 7])
        self.assertEqual(by_rows([("ann", 2)], [[0], [1]]).shares([7, -2]), [5])

    def test_the_shares_are_those_of_the_table_and_the_states_are_the_rests(self):
        source = random.Random(21)
        for _ in range(100):
            people = [("ann", source.randrange(3)), ("bob", source.randrange(1, 4)), ("cy", source.randrange(3))]
            rows = random_rows(source, people, -50, 50)
            rule = by_rows(people, rows)
            self.assertEqual(len(rule), rule.weight)
            bills = [source.randint(-10000, 10000) for _ in range(source.randint(0, 40))]
            quotient, rest = divmod(sum(bills), rule.weight)
            expected = [quotient * people[k][1] + rows[rest][k] for k in range(3)]
            self.assertEqual(rule.shares(bills), expected)
            self.assertEqual(rule.state(bills), rest)

    def test_the_next_states_are_the_sums_of_the_rests(self):
        rule = in_turn(EIGHT)
        for state in range(12):
            self.assertEqual([after for _, after in rule.states[state]], [(state + rest) % 12 for rest in range(12)])

    def test_rows_that_lack(self):
        self.wrong([], 0)
        self.wrong([[0, 0, 0]], 1)
        self.wrong([[0, 0, 0], [1, 0, 0]], 2)

    def test_rows_that_have_not_as_many_integers_as_there_are_people(self):
        self.wrong([[], [1, 0, 0], [1, 1, 0]], 0)
        self.wrong([[0, 0], [1, 0, 0], [1, 1, 0]], 0)
        self.wrong([[0, 0, 0, 0], [1, 0, 0], [1, 1, 0]], 0)
        self.wrong([[0, 0, 0], [1], [1, 1, 0]], 1)
        self.wrong([[0, 0, 0], [1, 0, 0], [1, 1, 0, 0]], 2)

    def test_rows_that_have_another_sum(self):
        self.wrong([[1, 0, 0], [1, 0, 0], [1, 1, 0]], 0)
        self.wrong([[0, 0, 0], [0, 0, 0], [1, 1, 0]], 1)
        self.wrong([[0, 0, 0], [1, 1, 0], [1, 1, 0]], 1)
        self.wrong([[0, 0, 0], [1, 0, 0], [1, 1, 1]], 2)
        self.wrong([[0, 0, 0], [1, 0, 0], [-1, 0, 0]], 2)

    def test_the_row_of_the_rest_0_is_all_0(self):
        self.wrong([[1, -1, 0], [1, 0, 0], [1, 1, 0]], 0)
        self.wrong([[0, 50, -50], [1, 0, 0], [1, 1, 0]], 0)

    def test_more_rows(self):
        self.wrong([[0, 0, 0], [1, 0, 0], [1, 1, 0], [1, 1, 1]], 3)
        self.wrong([[0, 0, 0], [1, 0, 0], [1, 1, 0], [], [9]], 3)
        self.wrong([[0, 0], [2, -1], [0, 0]], 2, ANN_BOB)

    def test_the_first_wrong_row_counts(self):
        self.wrong([[1, 0, 0], [0, 0, 0], [1, 1, 1], []], 0)
        self.wrong([[0, 0, 0], [0, 0, 0], [1, 1]], 1)
        self.wrong([[0, 0, 0], [0, 0]], 1)
        self.wrong([[0, 0, 0], [1, 0, 0], [1, 1], [1, 1, 1]], 2)

    def test_people_come_ahead_of_rows(self):
        for people, kind, value in (([("Ann", -1)], errors.InvalidName, "Ann"),
                                    ([("ann", 1), ("ann", -1)], errors.DoubleName, "ann"),
                                    ([("ann", -1)], errors.InvalidWeight, -1),
                                    ([("ann", 0)], errors.NoWeight, 0),
                                    ([], errors.NoWeight, 0)):
            for rows in ([], [[1]], [[0], [0]]):
                with self.assertRaises(errors.BillError) as raised:
                    by_rows(people, rows)
                self.assertIs(type(raised.exception), kind)
                self.assertEqual(raised.exception.value, value)

    def test_arguments_by_name(self):
        self.assertEqual(by_rows(rows=[[0, 0], [1, 0]], people=ANN_BOB), in_turn(people=ANN_BOB))

    def test_arguments_stay_as_they_were_and_are_not_kept(self):
        people, rows = list(ANN_BOB), [[0, 0], [3, -2]]
        self.assertTrue(unchanged_by(by_rows, people, rows))
        self.assertTrue(unchanged_by(by_rows, people, rows + [[]]))
        rule, again = by_rows(people, rows), by_rows(people, rows)
        people.append(("cy", 0))
        spoil(rows)
        self.assertEqual(rule, again)
        self.assertEqual(rule.shares([1]), [3, -2])
        self.assertTrue(all_apart(rule.states, again.states, rows))

    def test_one_list_that_stands_in_several_places(self):
        row = [1, 0, 0]
        two = [2, 0, 0]
        rule = by_rows(ANN_BOB_CY, [[0, 0, 0], row, two])
        row[0] = two[0] = 9
        self.assertEqual(rule.shares([1]), [1, 0, 0])
        self.assertTrue(all_apart(rule.states))

    def test_a_table_of_the_greatest_size(self):
        source = random.Random(22)
        rows = random_rows(source, EIGHT, -17, 17)
        rows[7] = [120, -120, 0, 0, 0, 0, 0, 7]
        rule = by_rows(EIGHT, rows)
        bills = [source.randint(-10000, 10000) for _ in range(40)]
        quotient, rest = divmod(sum(bills), 12)
        self.assertEqual(rule.shares(bills), [quotient * EIGHT[k][1] + rows[rest][k] for k in range(8)])
        self.assertEqual(rule.shares([7]), rows[7])


class TestInTurn(unittest.TestCase):
    def test_the_examples_of_the_document(self):
        turn = in_turn(ANN_BOB_CY)
        self.assertEqual(turn.shares([100, 100]), [67, 67, 66])
        self.assertEqual(turn, by_rows(ANN_BOB_CY, [[0, 0, 0], [1, 0, 0], [1, 1, 0]]))

    def test_the_first_one_of_several_gets_a_cent(self):
        self.assertEqual([in_turn(ANN_BOB).shares([k]) for k in range(3)], [[0, 0], [1, 0], [1, 1]])

    def test_the_one_who_lacks_most_gets_a_cent(self):
        # Behind cent 1 the exact shares of 2 cents are 2/4 and 6/4: bob lacks 2/4, ann lacks 2/4, ann is first.
        rule = in_turn([("ann", 1), ("bob", 3)])
        self.assertEqual([rule.shares([k]) for k in range(4)], [[0, 0], [0, 1], [1, 1], [1, 2]])
        rule = in_turn([("ann", 1), ("bob", 2), ("cy", 2)])
        told = [[0, 0, 0], [0, 1, 0], [0, 1, 1], [1, 1, 1], [1, 2, 1]]
        self.assertEqual([rule.shares([k]) for k in range(5)], told)

    def test_weights_of_0_get_nothing(self):
        rule = in_turn([("ann", 0), ("bob", 2), ("cy", 0), ("dee", 1)])
        self.assertEqual([rule.shares([k]) for k in range(3)], [[0, 0, 0, 0], [0, 1, 0, 0], [0, 1, 0, 1]])

    def test_one_of_the_people_alone(self):
        self.assertEqual(in_turn([("ann", 1)]), Rule([("ann", 1)], [[([0], 0)]]))
        self.assertEqual([in_turn([("ann", 3)]).shares([k]) for k in range(3)], [[0], [1], [2]])

    def test_rows_against_the_words_of_the_document(self):
        source = random.Random(23)
        for _ in range(150):
            names = ["ann", "bob", "cy", "dee", "eve", "fay", "gus", "hal"][:source.randint(1, 8)]
            people = [(name, source.randrange(4)) for name in names]
            people[source.randrange(len(people))] = (people[0][0] + "x", 1)
            rows = plain_rows(people)
            self.assertEqual(in_turn(people), by_rows(people, rows))
            self.assertEqual([in_turn(people).shares([rest]) for rest in range(len(rows))], rows)

    def test_the_people_are_checked(self):
        for people, kind, value in (([("Ann", -1)], errors.InvalidName, "Ann"),
                                    ([("ann", 1), ("ann", -1)], errors.DoubleName, "ann"),
                                    ([("ann", 3), ("bob", -1)], errors.InvalidWeight, -1),
                                    ([("ann", 0)], errors.NoWeight, 0),
                                    ([], errors.NoWeight, 0)):
            with self.assertRaises(errors.BillError) as raised:
                in_turn(people)
            self.assertIs(type(raised.exception), kind)
            self.assertEqual(raised.exception.value, value)

    def test_arguments_stay_as_they_were_and_are_not_kept(self):
        people = list(ANN_BOB_CY)
        self.assertTrue(unchanged_by(in_turn, people))
        self.assertTrue(unchanged_by(in_turn, [("ann", 0)]))
        rule = in_turn(people)
        people.pop()
        self.assertEqual(rule.people, ANN_BOB_CY)
        self.assertTrue(all_apart(rule.states, rule.states, people))

    def test_the_greatest_size(self):
        rule = in_turn(EIGHT)
        self.assertEqual([len(rule), rule.weight], [12, 12])
        self.assertEqual([rule.shares([rest]) for rest in range(12)], plain_rows(EIGHT))
        self.assertEqual(rule.shares([10000] * 40), by_rows(EIGHT, plain_rows(EIGHT)).shares([400000]))


if __name__ == "__main__":
    unittest.main()
