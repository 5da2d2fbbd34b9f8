"""Rules that deal bills among people, and bills that are corrected anew or beside."""

from owedafresh.errors import DoubleName, InvalidName, InvalidRow, InvalidState, InvalidWeight
from owedafresh.errors import NoWeight, UnknownBill, UnknownPerson

LETTERS = "abcdefghijklmnopqrstuvwxyz"
LONGEST_NAME = 8


def is_name(name):
    """Tell whether a text can be the name of somebody."""
    return 1 <= len(name) <= LONGEST_NAME and all([letter in LETTERS for letter in name])


def checked_weights(people):
    """Return the weights of people, if these can be the people of a rule."""
    names = []
    for name, weight in people:
        if not is_name(name):
            raise InvalidName(name)
        if name in names:
            raise DoubleName(name)
        if weight < 0:
            raise InvalidWeight(weight)
        names.append(name)
    weights = [weight for _, weight in people]
    if sum(weights) == 0:
        raise NoWeight(0)
    return weights


def deals_rest(extras, rest, many):
    """Tell whether extra cents deal a rest among so many people."""
    return len(extras) == many and sum(extras) == rest


def is_step(states, state, rest, many):
    """Tell whether a state has extra cents and a next state for a rest, as a rule needs them."""
    row = states[state]
    if rest >= len(row):
        return False
    extras, after = row[rest]
    if not deals_rest(extras, rest, many):
        return False
    if state == 0 and rest == 0 and any(extras):
        return False
    return 0 <= after < len(states)


def check_states(states, whole, many):
    """Raise an error if states are not those of a rule of a whole weight and so many people."""
    if len(states) == 0:
        raise InvalidState(0)
    for state in range(len(states)):
        for rest in range(whole):
            if not is_step(states, state, rest, many):
                raise InvalidRow((state, rest))
        if len(states[state]) > whole:
            raise InvalidRow((state, whole))


def copied_states(states):
    """Return states in lists of their own."""
    return [[(list(extras), after) for extras, after in row] for row in states]


class Rule:
    """People with weights, and states that tell who bears which of the extra cents."""

    def __init__(self, people, states):
        weights = checked_weights(people)
        check_states(states, sum(weights), len(weights))
        self._people = [(name, weight) for name, weight in people]
        self._states = copied_states(states)
        self._weight = sum(weights)

    @property
    def people(self):
        """The list of tuples (name, weight)."""
        return list(self._people)

    @property
    def states(self):
        """The list of lists of tuples (extras, next)."""
        return copied_states(self._states)

    @property
    def weight(self):
        """The whole weight."""
        return self._weight

    def __getitem__(self, at):
        for name, weight in self._people:
            if name == at:
                return weight
        raise UnknownPerson(at)

    # Without it Python would try the numbers from 0 on as names.
    def __iter__(self):
        raise TypeError("a rule is not iterated over")

    def __len__(self):
        return len(self._states)

    def __eq__(self, other):
        if not isinstance(other, Rule):
            return False
        return self._people == other._people and self._states == other._states

    def shares(self, bills):
        """Return the list of what each one owes of a list of bills, in the order of the people."""
        totals = [0 for _ in self._people]
        state = 0
        for amount in bills:
            quotient, rest = divmod(amount, self._weight)
            extras, state = self._states[state][rest]
            for place, (_, weight) in enumerate(self._people):
                totals[place] += quotient * weight + extras[place]
        return totals

    def state(self, bills):
        """Return the state to which a list of bills leads."""
        state = 0
        for amount in bills:
            _, state = self._states[state][amount % self._weight]
        return state


def check_bill(bills, index):
    """Raise an error if a list has no bill with this index."""
    if not 0 <= index < len(bills):
        raise UnknownBill(index)


def anew(rule, bills, index, amount):
    """Return the shares if a bill is corrected to an amount in its place."""
    check_bill(bills, index)
    return rule.shares(bills[:index] + [amount] + bills[index + 1:])


def beside(rule, bills, index, amount):
    """Return the shares if a bill is corrected to an amount by one bill more."""
    check_bill(bills, index)
    return rule.shares(bills + [amount - bills[index]])


def check_rows(rows, whole, many):
    """Raise an error if rows are not those of a table of a whole weight and so many people."""
    for rest in range(whole):
        if rest >= len(rows) or not deals_rest(rows[rest], rest, many):
            raise InvalidRow(rest)
        if rest == 0 and any(rows[rest]):
            raise InvalidRow(rest)
    if len(rows) > whole:
        raise InvalidRow(whole)


def table_step(weights, rows, state, rest):
    """Return the extra cents and the next state of a table's rule, for a rest in a state."""
    turns, after = divmod(state + rest, len(rows))
    extras = [rows[after][k] - rows[state][k] + turns * weight for k, weight in enumerate(weights)]
    return extras, after


def by_rows(people, rows):
    """Return the rule of a table: a row of shares for each rest of the sum of all bills."""
    weights = checked_weights(people)
    check_rows(rows, sum(weights), len(weights))
    whole = len(rows)
    return Rule(people, [[table_step(weights, rows, state, rest) for rest in range(whole)] for state in range(whole)])


def with_cent(weights, row):
    """Return a row with one cent more, for the one who is furthest behind their exact share."""
    cents = sum(row) + 1
    # Times the whole weight, so that the exact shares are integers.
    behind = [cents * weight - sum(weights) * row[k] for k, weight in enumerate(weights)]
    chosen = behind.index(max(behind))
    return [cent + 1 if k == chosen else cent for k, cent in enumerate(row)]


def in_turn(people):
    """Return the rule of the table that deals cent by cent to whoever is furthest behind."""
    weights = checked_weights(people)
    rows = [[0 for _ in weights]]
    for _ in range(1, sum(weights)):
        rows.append(with_cent(weights, rows[-1]))
    return by_rows(people, rows)
