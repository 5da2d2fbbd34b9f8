"""Texts of rules and of lists of bills."""


def show_rest(extras, after):
    """Return the text of what a state deals for a rest."""
    cents = ",".join([str(cent) for cent in extras])
    return f"{cents}>{after}"


def show_rule(rule):
    """Return the text of a rule: its people, and its states, rest by rest."""
    people = " ".join([f"{name}={weight}" for name, weight in rule.people])
    states = [" ".join([show_rest(extras, after) for extras, after in row]) for row in rule.states]
    return "; ".join([people] + states)


def show_bills(bills):
    """Return the text of a list of bills."""
    return " ".join([str(amount) for amount in bills])
