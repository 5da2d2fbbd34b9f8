"""Rules that deal bills among people, and bills that are corrected anew or beside."""

from owedafresh.errors import DoubleName, InvalidName, InvalidRow, InvalidState, InvalidWeight
from owedafresh.errors import NoWeight, UnknownBill, UnknownPerson

LETTERS = "abcdefghijklmnopqrstuvwxyz"
LONGEST_NAME = 8


def is_name(name):
    """Tell whether a text can be the name of somebody."""
    return 1 <= len(name) <= LONGEST_NAME and all([letter in LETTERS for letter in name])


def checked_weights(people):
    """Return the weights of people, if these can be the people of a rule."""
    names = []
    for name, weight in people:
        if not is_name(name):
            raise InvalidName(name)
        if name in names:
            raise DoubleName(name)
        if weight < 0:
            raise InvalidWeight(weight)
        names.append(name)
    weights = [weight for _, weight in people]
    if sum(weights) == 0:
        raise NoWeight(0)
    return weights


def wrong_rest(row, whole, many, most):
    """Return the first rest that a state does not deal as a rule needs it, None if there is none."""
    for rest, (extras, after) in enumerate(row):
        if rest == whole or len(extras) != many or sum(extras) != rest or not 0 <= after < most:
            return rest
    if len(row) < whole:
        return len(row)
    return None


def check_states(states, whole, many):
    """Raise an error if states are not those of a rule of a whole weight and so many people."""
    if len(states) == 0:
        raise InvalidState(0)
    if len(states[0]) > 0 and any(states[0][0][0]):
        raise InvalidRow((0, 0))
    for state, row in enumerate(states):
        rest = wrong_rest(row, whole, many, len(states))
        if rest is not None:
            raise InvalidRow((state, rest))


def columns_of(rows):
    """Return the tuple of tuples of what rows of integers hold of each one of the people, row by row."""
    return tuple(zip(*rows))


def rows_of(columns):
    """Return the list of lists of integers, of which columns are those of each one of the people."""
    return [list(row) for row in zip(*columns)]


class Rule:
    """People with weights, and states that tell who bears which of the extra cents."""

    def __init__(self, people, states):
        weights = checked_weights(people)
        check_states(states, sum(weights), len(weights))
        self._people = tuple([(name, weight) for name, weight in people])
        self._cents = tuple([columns_of([extras for extras, _ in row]) for row in states])
        self._nexts = tuple([tuple([after for _, after in row]) for row in states])
        self._weight = sum(weights)

    @property
    def people(self):
        """The list of tuples (name, weight)."""
        return list(self._people)

    @property
    def states(self):
        """The list of lists of tuples (extras, next)."""
        return [list(zip(rows_of(self._cents[k]), row)) for k, row in enumerate(self._nexts)]

    @property
    def weight(self):
        """The whole weight."""
        return self._weight

    # Tuples, which nobody can change, so that they need not be copied for those who only look at them.
    @property
    def cents(self):
        """The tuple of tuples, one for each state, of the extra cents of each one of the people, rest by rest."""
        return self._cents

    @property
    def nexts(self):
        """The tuple of tuples, one for each state, of the next states, rest by rest."""
        return self._nexts

    def place(self, name):
        """Return the index of one of the people."""
        for place, (known, _) in enumerate(self._people):
            if known == name:
                return place
        raise UnknownPerson(name)

    def __getitem__(self, at):
        return self._people[self.place(at)][1]

    # Without it Python would try the numbers from 0 on as names.
    def __iter__(self):
        raise TypeError("a rule is not iterated over")

    def __len__(self):
        return len(self._nexts)

    def __eq__(self, other):
        if not isinstance(other, Rule):
            return False
        return self._people == other._people and self._cents == other._cents and self._nexts == other._nexts

    def shares(self, bills):
        """Return the list of what each one owes of a list of bills, in the order of the people."""
        turns = 0
        dealt = [0 for _ in self._people]
        state = 0
        for amount in bills:
            quotient, rest = divmod(amount, self._weight)
            turns += quotient
            for place, row in enumerate(self._cents[state]):
                dealt[place] += row[rest]
            state = self._nexts[state][rest]
        return [turns * weight + dealt[place] for place, (_, weight) in enumerate(self._people)]

    def state(self, bills):
        """Return the state to which a list of bills leads."""
        state = 0
        for amount in bills:
            state = self._nexts[state][amount % self._weight]
        return state


def check_bill(bills, index):
    """Raise an error if a list has no bill with this index."""
    if not 0 <= index < len(bills):
        raise UnknownBill(index)


def anew(rule, bills, index, amount):
    """Return the shares if a bill is corrected to an amount in its place."""
    check_bill(bills, index)
    return rule.shares(bills[:index] + [amount] + bills[index + 1:])


def beside(rule, bills, index, amount):
    """Return the shares if a bill is corrected to an amount by one bill more."""
    check_bill(bills, index)
    return rule.shares(bills + [amount - bills[index]])


def check_rows(rows, whole, many):
    """Raise an error if rows are not those of a table of a whole weight and so many people."""
    for rest in range(whole):
        if rest >= len(rows) or len(rows[rest]) != many or sum(rows[rest]) != rest:
            raise InvalidRow(rest)
        if rest == 0 and any(rows[rest]):
            raise InvalidRow(rest)
    if len(rows) > whole:
        raise InvalidRow(whole)


def table_cents(weights, columns, whole):
    """Return the extra cents of a table's rule, as a rule has them, out of the rows of each one of the people."""
    found = [[] for _ in range(whole)]
    for weight, column in zip(weights, columns):
        # The rows of two whole weights: a bill leads on in them, without a step back to the first ones.
        ahead = list(column) + [cents + weight for cents in column]
        for rest, cents in enumerate(column):
            found[rest].append(tuple([later - cents for later in ahead[rest:rest + whole]]))
    return [tuple(rows) for rows in found]


def table_nexts(whole):
    """Return the next states of the rule of a table of a whole weight, as a rule has them."""
    rests = tuple(range(whole))
    return [rests[rest:] + rests[:rest] for rest in rests]


def by_rows(people, rows):
    """Return the rule of a table: a row of shares for each rest of the sum of all bills."""
    weights = checked_weights(people)
    check_rows(rows, sum(weights), len(weights))
    nexts = table_nexts(len(rows))
    cents = table_cents(weights, columns_of(rows), len(rows))
    return Rule(people, [list(zip(rows_of(cents[rest]), nexts[rest])) for rest in range(len(rows))])


def with_cent(weights, row):
    """Return a row with one cent more, for the one who is furthest behind their exact share."""
    cents = sum(row) + 1
    # Times the whole weight, so that the exact shares are integers.
    behind = [cents * weight - sum(weights) * row[k] for k, weight in enumerate(weights)]
    chosen = behind.index(max(behind))
    return [cent + 1 if k == chosen else cent for k, cent in enumerate(row)]


def in_turn(people):
    """Return the rule of the table that deals cent by cent to whoever is furthest behind."""
    weights = checked_weights(people)
    rows = [[0 for _ in weights]]
    for _ in range(1, sum(weights)):
        rows.append(with_cent(weights, rows[-1]))
    return by_rows(people, rows)
