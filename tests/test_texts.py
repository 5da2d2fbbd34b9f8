"""The heads owedafresh/texts.py and owedafresh/readings.py."""

import random
import re
import unittest

from owedafresh.errors import BillError, Unreadable
from owedafresh.readings import read_bills, read_rule
from owedafresh.rules import Rule, by_rows, in_turn
from owedafresh.texts import show_bills, show_rule
from owedafresh.wholes import least
from tests.helper import (ANN_BOB, ANN_BOB_CY, all_apart, first_rule, long_rule, random_rows, random_states, seconds,
                          some_small_rules, spoil, unchanged_by)

TURN_TEXT = "ann=1 bob=1; 0,0>0 1,0>1; 0,0>1 0,1>0"
# All characters of texts, from the space to the tilde without the percent sign.
SIGNS = [chr(code) for code in range(32, 127) if code != 37]
CENT = "(?:0|-?[1-9][0-9]?)"
COUNT = "(?:0|[1-9][0-9]?)"
PERSON = f"[a-z]{{1,8}}={COUNT}"
REST = f"{CENT}(?:,{CENT})*>{COUNT}"
RULE = re.compile(f"{PERSON}(?: {PERSON})*(?:; {REST}(?: {REST})*)+")
AMOUNT = "(?:0|-?[1-9][0-9]{0,5})"
BILLS = re.compile(f"(?:{AMOUNT}(?: {AMOUNT})*)?")


def plain_rule(text):
    """The people and states of the rule with a text, None if there is none, out of the words of the document."""
    if not RULE.fullmatch(text):
        return None
    head, *tails = text.split(";")
    people = [(name, int(weight)) for name, weight in re.findall("([a-z]+)=([0-9]+)", head)]
    states = [[([int(cent) for cent in cents.split(",")], int(after))
               for cents, after in re.findall("([-0-9,]+)>([0-9]+)", tail)] for tail in tails]
    whole = sum(weight for _, weight in people)
    right = len({name for name, _ in people}) == len(people) and whole > 0 and not any(states[0][0][0])
    for row in states:
        right = right and len(row) == whole and all(
            len(cents) == len(people) and sum(cents) == rest and after < len(states)
            for rest, (cents, after) in enumerate(row))
    return (people, states) if right else None


def plain_bills(text):
    """The list of bills with a text, None if there is none."""
    return [int(word) for word in text.split()] if BILLS.fullmatch(text) else None


def changed_texts(text):
    """Every text that comes of a text by one character that is changed, lost or added."""
    for at in range(len(text) + 1):
        for sign in SIGNS:
            yield text[:at] + sign + text[at:]
            if at < len(text):
                yield text[:at] + sign + text[at + 1:]
        yield text[:at] + text[at + 1:]


class TestCase(unittest.TestCase):
    def unreadable(self, read, text):
        with self.assertRaises(BillError) as raised:
            read(text)
        self.assertIs(type(raised.exception), Unreadable, text)
        self.assertEqual(raised.exception.value, text)

    def check_rule(self, text):
        """Hold the rule with a text against the one that a plain reading finds; tell whether there is one."""
        expected = plain_rule(text)
        if expected is None:
            self.unreadable(read_rule, text)
            return False
        rule = read_rule(text)
        self.assertEqual([(rule.people, rule.states), show_rule(rule)], [expected, text])
        self.assertEqual(rule, Rule(*expected))
        return True

    def check_bills(self, text):
        """Hold the list of bills with a text against the one that a plain reading finds; tell whether there is one."""
        expected = plain_bills(text)
        if expected is None:
            self.unreadable(read_bills, text)
            return False
        self.assertEqual([read_bills(text), show_bills(expected)], [expected, text])
        return True


class TestExamples(unittest.TestCase):
    def test_the_examples_of_the_document(self):
        turn = in_turn([("ann", 1), ("bob", 1)])
        self.assertEqual(
            [show_rule(turn), show_bills([100, -1]), read_rule(show_rule(turn)) == turn, read_bills("0 -12 5"),
             read_bills("")],
            ["ann=1 bob=1; 0,0>0 1,0>1; 0,0>1 0,1>0", "100 -1", True, [0, -12, 5], []])


class TestShowing(unittest.TestCase):
    def test_rules(self):
        self.assertEqual(show_rule(Rule([("a", 1)], [[([0], 0)]])), "a=1; 0>0")
        self.assertEqual(show_rule(first_rule(ANN_BOB_CY)), "ann=1 bob=1 cy=1; 0,0,0>0 1,0,0>0 1,1,0>0")
        self.assertEqual(show_rule(long_rule()), "ann=1 bob=1; 0,0>1 1,0>2; 0,0>0 1,0>2; 0,0>2 0,1>1")
        rule = Rule([("ann", 0), ("abcdefgh", 1)], [[([0, 0], 1)], [([-50, 50], 0)]])
        self.assertEqual(show_rule(rule), "ann=0 abcdefgh=1; 0,0>1; -50,50>0")

    def test_numbers_with_more_digits_than_are_read(self):
        rule = Rule([("ann", 1), ("bob", 0)], [[([0, 0], 1)], [([-120, 120], 0)]])
        self.assertEqual(show_rule(rule), "ann=1 bob=0; 0,0>1; -120,120>0")
        self.assertEqual(show_bills([10 ** 6, -(10 ** 6), 10 ** 30]), "1000000 -1000000 1" + "0" * 30)

    def test_the_greatest_rules(self):
        people = [("a", 1), ("b", 1), ("c", 2), ("d", 0), ("e", 5), ("f", 1), ("g", 1), ("abcdefgh", 1)]
        states = [[([rest, -120, 120, 0, 0, 0, 0, 0], 11) for rest in range(12)] for _ in range(12)]
        states[0][0] = ([0] * 8, 10)
        row = " ".join(f"{rest},-120,120,0,0,0,0,0>11" for rest in range(12))
        text = "; ".join(["a=1 b=1 c=2 d=0 e=5 f=1 g=1 abcdefgh=1"] + [row] * 12)
        self.assertEqual(show_rule(Rule(people, states)), text.replace("0,-120,120,0,0,0,0,0>11", "0,0,0,0,0,0,0,0>10", 1))

    def test_bills(self):
        self.assertEqual(show_bills([]), "")
        self.assertEqual(show_bills([0]), "0")
        self.assertEqual(show_bills([-10000, 10000, 0, 7]), "-10000 10000 0 7")

    def test_arguments_by_name_that_stay_as_they_were(self):
        bills = [3, -1]
        rule = long_rule()
        self.assertEqual([show_bills(bills=bills), show_rule(rule=rule)], ["3 -1", show_rule(long_rule())])
        self.assertTrue(unchanged_by(show_bills, bills))
        self.assertTrue(unchanged_by(show_rule, rule))
        bills.append(4)
        self.assertEqual(show_bills(bills), "3 -1 4")


class TestRulesThatAreReadBack(TestCase):
    def read_back(self, rule):
        again = read_rule(show_rule(rule))
        self.assertIs(type(again), Rule)
        self.assertTrue(again == rule)
        self.assertEqual([again.people, again.states, again.weight, len(again)],
                         [rule.people, rule.states, rule.weight, len(rule)])
        self.assertEqual(show_rule(again), show_rule(rule))
        self.assertTrue(self.check_rule(show_rule(rule)))

    def test_rules_of_all_sizes(self):
        source = random.Random(301)
        for many in range(1, 9):
            for states in range(1, 13):
                weights = [source.randrange(3) for _ in range(many)]
                weights[source.randrange(many)] += 1 if sum(weights) < 12 else 0
                while sum(weights) > 12:
                    weights[weights.index(max(weights))] -= 1
                people = [("abcdefgh"[place:place + source.randint(1, 8)], weight)
                          for place, weight in enumerate(weights)]
                self.read_back(Rule(people, random_states(source, people, states, -12, 12)))

    def test_each_whole_weight(self):
        source = random.Random(302)
        for whole in range(1, 13):
            for people in ([("ann", whole)], [("ann", whole - 1), ("bob", 1)], [("ann", 0), ("zzzzzzzz", whole)]):
                self.read_back(in_turn(people))
                self.read_back(by_rows(people, random_rows(source, people, -40, 40)))
                self.read_back(first_rule(people))

    def test_other_rules_of_the_program(self):
        for rule in some_small_rules(random.Random(303), 60):
            self.read_back(rule)
            self.read_back(least(rule))

    def test_the_greatest_numbers_that_are_read(self):
        self.read_back(Rule([("ann", 1), ("bob", 0)], [[([0, 0], 1)], [([99, -99], 0)]]))
        self.read_back(Rule([("ann", 1), ("bob", 0)], [[([0, 0], 1)], [([-99, 99], 0)]]))
        self.read_back(Rule([("ann", 0), ("bob", 99)], [[([rest, 0], 0) for rest in range(99)]]))
        self.read_back(Rule([("ann", 1)], [[([0], 99 - state)] for state in range(100)]))

    def test_rules_beyond_the_bounds(self):
        # No rest leads to the states from 100 on, so that their text has no longer integers.
        self.read_back(Rule([("ann", 1)], [[([0], 9)] for _ in range(500)]))
        letters = "abcdefghijklmnopqrstuvwxyz"
        names = list(letters) + [one + other for one in letters for other in letters]
        people = [(name, 1 if name == "q" else 0) for name in names[:420]]
        self.read_back(Rule(people, [[([0] * 420, 0)]]))
        self.read_back(in_turn([(name, 1) for name in names[:30]]))
        self.assertFalse(self.check_rule(show_rule(Rule([("ann", 1)], [[([0], 100)] for _ in range(101)]))))
        self.assertFalse(self.check_rule(show_rule(Rule([("ann", 100)], [[([rest], 0) for rest in range(100)]]))))
        self.assertFalse(self.check_rule(show_rule(Rule([("ann", 1), ("bob", 0)], [[([0, 0], 1)], [([100, -100], 0)]]))))

    def test_read_rules_deal(self):
        source = random.Random(304)
        for rule in some_small_rules(source, 20):
            again = read_rule(show_rule(rule))
            for _ in range(5):
                bills = [source.randint(-100, 100) for _ in range(source.randint(0, 8))]
                self.assertEqual([again.shares(bills), again.state(bills)], [rule.shares(bills), rule.state(bills)])

    def test_each_rule_is_new_and_keeps_nothing(self):
        one, other = read_rule(TURN_TEXT), read_rule(TURN_TEXT)
        self.assertTrue(all_apart(one.states, other.states, one.people, other.people))
        spoil(one.states)
        spoil(one.people)
        self.assertEqual([one, other], [in_turn(ANN_BOB)] * 2)

    def test_arguments_by_name(self):
        self.assertEqual(read_rule(text=TURN_TEXT), in_turn(ANN_BOB))
        self.assertEqual(read_bills(text="5 -6"), [5, -6])


class TestTextsOfNoRule(TestCase):
    def wrong(self, *texts):
        for text in texts:
            self.assertFalse(self.check_rule(text), text)

    def right(self, *texts):
        for text in texts:
            self.assertTrue(self.check_rule(text), text)

    def test_one_character_changed_lost_or_added(self):
        texts = [TURN_TEXT, "a=1; 0>0", "ann=0 bob=1; 0,0>1; -5,5>0", "a=2 b=0; 0,0>0 -9,10>0",
                 show_rule(long_rule()), "z=10 y=0; " + " ".join(f"{rest},0>0" for rest in range(10))]
        for text in texts:
            found = [self.check_rule(other) for other in changed_texts(text)]
            self.assertTrue(any(found))
            self.assertFalse(all(found))

    def test_texts_that_have_none_at_all(self):
        self.wrong("", " ", ";", "; ", "=", "a", "a=", "=1", "1", "a=1", "a=1;", "a=1; ", "a=1 ; 0>0", "a=1;0>0",
                   "0>0", "; 0>0", " ; 0>0", "a=1; 0", "a=1; >0", "a=1; 0>", "a=1; >", "a=1; 0>0>0", "a=1; 0>0,0")

    def test_spaces(self):
        self.right(TURN_TEXT)
        self.wrong(" " + TURN_TEXT, TURN_TEXT + " ")
        for at, sign in enumerate(TURN_TEXT):
            self.wrong(TURN_TEXT[:at] + " " + TURN_TEXT[at:])
            if sign == " ":
                self.wrong(TURN_TEXT[:at] + TURN_TEXT[at + 1:], TURN_TEXT[:at] + "_" + TURN_TEXT[at + 1:])

    def test_semicolons(self):
        self.wrong(TURN_TEXT + ";", TURN_TEXT + "; ", ";" + TURN_TEXT, "; " + TURN_TEXT, TURN_TEXT.replace(";", ";;"),
                   TURN_TEXT.replace("; ", "; ; "), TURN_TEXT.replace(";", ","), TURN_TEXT.replace(";", ""))

    def test_weights(self):
        self.right("a=1 b=0; 0,0>0", "a=99; " + " ".join(f"{rest}>0" for rest in range(99)))
        self.wrong("a=01; 0>0", "a=1 b=00; 0,0>0", "a=1 b=-0; 0,0>0", "a=+1; 0>0", "a=001; 0>0", "a=1.; 0>0",
                   "a=100; " + " ".join(f"{rest}>0" for rest in range(100)), "a=-1; 0>0", "a=2 b=-1; 0,0>0",
                   "a=1_0; 0>0", "a=0x1; 0>0", "a=b; 0>0", "a==1; 0>0", "a=1=1; 0>0", "a:1; 0>0")

    def test_weights_of_0_alone(self):
        self.wrong("a=0; 0>0", "a=0;", "a=0; ", "a=0 b=0; 0,0>0", "a=0 b=0", "a=0; 0>0; 0>0")
        self.right("a=0 b=1; 0,0>0", "a=1 b=0; 0,0>0")

    def test_names(self):
        self.right("abcdefgh=1; 0>0", "zzzzzzzz=1; 0>0", "a=1; 0>0", "a=1 b=0 c=0; 0,0,0>0")
        self.wrong("abcdefghi=1; 0>0", "Ann=1; 0>0", "anN=1; 0>0", "a1=1; 0>0", "=1; 0>0", "a-b=1; 0>0",
                   "a_b=1; 0>0", "`=1; 0>0", "{=1; 0>0", "a=1 =0; 0,0>0", "a.=1; 0>0", "~=1; 0>0")
        self.wrong("a=1 a=0; 0,0>0", "a=1 b=0 a=0; 0,0,0>0", "a=0 b=0 b=1; 0,0,0>0")

    def test_extra_cents(self):
        self.right("a=1 b=0; 0,0>1; 9,-9>0", "a=1 b=0; 0,0>1; 99,-99>0", "a=1 b=0; 0,0>1; -10,10>0")
        self.wrong("a=1 b=0; 0,0>1; 100,-100>0", "a=1 b=0; 0,0>1; 09,-9>0", "a=1 b=0; 0,0>1; 9,-09>0",
                   "a=1 b=0; 0,-0>0", "a=1 b=0; -0,0>0", "a=1 b=0; 00,0>0", "a=1 b=0; 0,0>1; +9,-9>0",
                   "a=1 b=0; 0,0>1; 9,--9>0", "a=1 b=0; 0,0>1; 9,- 9>0", "a=1 b=0; 0,0>1; 9,-9->0",
                   "a=1 b=0; 0,->0", "a=1 b=0; ,0>0", "a=1 b=0; 0,>0", "a=1 b=0; 0,,0>0", "a=1 b=0; 0;0>0",
                   "a=1 b=0; 0 ,0>0", "a=1 b=0; 0, 0>0", "a=1 b=0; 0,0,>0", "a=1 b=0; ,0,0>0")

    def test_extra_cents_with_another_sum(self):
        self.wrong("a=1 b=0; 0,1>0", "a=1 b=0; 0,-1>0", "a=1 b=0; 1,0>0", "a=2; 0>0 2>0", "a=2; 0>0 0>0",
                   "a=2; 1>0 0>0", "a=1 b=0; 0,0>1; 9,-8>0")

    def test_the_rest_0_of_state_0(self):
        self.wrong("a=1 b=0; 1,-1>0", "a=1 b=0; 1,-1>0; 0,0>0")
        self.right("a=1 b=0; 0,0>0; 1,-1>0")

    def test_extra_cents_too_few_or_too_many(self):
        self.wrong("a=1; 0,0>0", "a=1; >0", "a=1 b=0; 0>0", "a=1 b=0; 0,0,0>0", "a=1 b=0; 0,0>0; 0>0")

    def test_next_states(self):
        self.right("a=1; 0>1; 0>0", "a=1; " + "; ".join(["0>10"] * 11), "a=1; " + "; ".join(["0>99"] * 100))
        self.wrong("a=1; 0>1", "a=1; 0>-1", "a=1; 0>-0", "a=1; 0>00", "a=1; 0>2; 0>0", "a=1; 0>1; 0>2", "a=1; 0>+0",
                   "a=1; " + "; ".join(["0>11"] * 11), "a=1; 0>01; 0>0", "a=1; " + "; ".join(["0>100"] * 101),
                   "a=1; 0>10", "a=1; 0> 0", "a=1; 0>0.", "a=1; 0>a")

    def test_rests_too_few_or_too_many(self):
        self.right("a=2; 0>0 1>0")
        self.wrong("a=2; 0>0", "a=2; 0>0 1>0 2>0", "a=1; 0>0 1>0", "a=1; 0>0 0>0", "a=2; 0>0 1>0; 0>0",
                   "a=2; 0>0; 0>0 1>0", "a=2; 0>0 1>0; 0>0 1>0 2>0", "a=2; 0>0; 1>0")

    def test_no_states(self):
        self.wrong("a=1", "a=1 b=1", "a=1;", "a=1; ", "a=1; ; 0>0", "a=1; 0>0; ", "a=1; 0>0;")

    def test_texts_of_3000_characters(self):
        people = "a=1" + "; 0>0" * 599
        self.right(people)
        self.wrong(people + ";", people + " ", people[:-1], people + "0", " " + people)
        self.assertEqual(len(people), 2998)
        letters = "abcdefghijklmnopqrstuvwxyz"
        names = [one + other for one in letters for other in letters][:428]
        wide = " ".join(name + ("=1" if name == "ab" else "=0") for name in names) + "; " + ",".join("0" * 428) + ">0"
        self.assertEqual(len(wide), 428 * 5 - 1 + 2 + 428 * 2 - 1 + 2)
        self.right(wide)
        self.wrong(wide + ",", wide.replace("ab=1", "ab=0"), wide.replace("ac=", "ab="))
        for sign in SIGNS:
            self.wrong(sign * 3000, (sign + " ") * 1500)
        self.wrong("".join(SIGNS) * 31, "; " * 1500, "a=1; " * 600, "0>0 " * 750, "a=1; " + "0," * 1497 + "0")


class TestBills(TestCase):
    def wrong(self, *texts):
        for text in texts:
            self.assertFalse(self.check_bills(text), text)

    def right(self, *texts):
        for text in texts:
            self.assertTrue(self.check_bills(text), text)

    def test_lists_are_read_back(self):
        source = random.Random(305)
        for many in list(range(41)) + [200]:
            bills = [source.choice([0, -1, 999999, -999999, source.randint(-10000, 10000)]) for _ in range(many)]
            self.assertEqual(read_bills(show_bills(bills)), bills)
            self.assertEqual(show_bills(read_bills(show_bills(bills))), show_bills(bills))

    def test_one_character_changed_lost_or_added(self):
        for text in ("", "0", "5", "-1", "0 -12 5", "100 -1", "999999 -999999", "10 0 -10", "-123456 1"):
            found = [self.check_bills(other) for other in changed_texts(text)]
            self.assertTrue(any(found))
            self.assertFalse(all(found))

    def test_the_empty_text(self):
        self.assertEqual(read_bills(""), [])
        told = read_bills("")
        told.append(1)
        self.assertEqual(read_bills(""), [])

    def test_spaces(self):
        self.wrong(" ", "  ", " 1", "1 ", "1  2", "1 2 ", " 1 2", "1 - 2", "- 1")
        self.right("1 2")

    def test_integers(self):
        self.right("0", "-1", "1", "999999", "-999999", "100000", "-100000", "0 0 0")
        self.wrong("-0", "00", "01", "-01", "+1", "+0", "1000000", "-1000000", "0000000", "0999999", "--1", "-", "1-",
                   "1.0", "1,2", "1_0", "0x1", "1e3", "a", "1;2", "ann", "1>0", "1 +2", "1 -0", "5 007", "~")

    def test_longer_amounts_are_not_read_though_lists_have_them(self):
        for amount in (10 ** 6, -(10 ** 6), 10 ** 30):
            self.wrong(show_bills([amount]), show_bills([3, amount]), show_bills([amount, 3]))

    def test_texts_of_3000_characters(self):
        self.right("1 " * 1499 + "1", "-999999 " * 374 + "-999999")
        self.wrong("1 " * 1500, "1" * 3000, "0" * 3000, "-" * 3000, "9999999 " * 375, "1 " * 1499 + "-")
        for sign in SIGNS:
            self.wrong(sign * 3000)


class TestTimes(unittest.TestCase):
    LONGEST = 0.02

    def tried(self, read, text):
        try:
            read(text)
        except Unreadable:
            pass

    def test_how_long_readings_take(self):
        letters = "abcdefghijklmnopqrstuvwxyz"
        names = list(letters) + [one + other for one in letters for other in letters]
        texts = ["a=1" + "; 0>0" * 599, "a=1" + "; 0>0" * 598 + "; 0>9", " ".join(f"{name}=0" for name in names[:605]),
                 " ".join(f"{name}=0" for name in names[:429]) + "; " + ",".join("0" * 429) + ">0",
                 " ".join(f"{name}=99" for name in names[:490]) + "; 0>0", "; " * 1500, " " * 3000, "a" * 3000,
                 "a=1; " + "0," * 1496 + "0>0", "a=1; " + "0>0 " * 748, "-" * 3000, "=" * 3000, ">" * 3000, "9" * 3000,
                 "1 " * 1499 + "1", "-999999 " * 374 + "-999999", "1 " * 1500, "a=99 b=99; 0,0>0"]
        for text in texts:
            for read in (read_rule, read_bills):
                self.assertLess(seconds(self.tried, read, text), self.LONGEST, text[:20])

    def test_how_long_showing_takes(self):
        people = [("a", 1), ("b", 1), ("c", 2), ("d", 0), ("e", 5), ("f", 1), ("g", 1), ("abcdefgh", 1)]
        rule = Rule(people, random_states(random.Random(306), people, 12, -17, 17))
        self.assertLess(seconds(show_rule, rule), self.LONGEST)
        self.assertLess(seconds(show_bills, [-10000] * 200), self.LONGEST)


if __name__ == "__main__":
    unittest.main()
