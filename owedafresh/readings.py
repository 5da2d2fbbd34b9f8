"""Rules and lists of bills that are read from their texts."""

from owedafresh.errors import BillError, Unreadable
from owedafresh.rules import Rule

DIGITS = 2
DIGITS_OF_AMOUNTS = 6


def read_integer(text, most):
    """Return the integer with a text, if it has at most so many digits."""
    digits = text.removeprefix("-")
    # The text of the integer itself has no leading zeros, and is not that of -0.
    if not digits.isdecimal() or len(digits) > most or str(int(text)) != text:
        raise Unreadable(text)
    return int(text)


def read_person(text):
    """Return the tuple (name, weight) with a text."""
    name, _, weight = text.partition("=")
    return name, read_integer(weight, DIGITS)


def read_rest(text):
    """Return the tuple (extras, next) with a text."""
    extras, _, after = text.partition(">")
    return [read_integer(cents, DIGITS) for cents in extras.split(",")], read_integer(after, DIGITS)


def read_state(text):
    """Return the list of tuples (extras, next) of a state with a text."""
    return [read_rest(rest) for rest in text.split(" ")]


def read_rule(text):
    """Return the rule with a text."""
    people, *states = text.split("; ")
    try:
        return Rule([read_person(word) for word in people.split(" ")], [read_state(state) for state in states])
    except BillError:
        raise Unreadable(text) from None


def read_bills(text):
    """Return the list of bills with a text."""
    if text == "":
        return []
    try:
        return [read_integer(amount, DIGITS_OF_AMOUNTS) for amount in text.split(" ")]
    except BillError:
        raise Unreadable(text) from None
