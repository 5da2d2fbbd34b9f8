"""Changes of shares if a bill is corrected to one cent more: how great or small they get, and whether they sink."""

from owedafresh.walks import LESS, MORE, are_bounds, best_of, best_walks, first_leads, greatest_walk, round_of


def correction_starts(rule, place, sign):
    """Return the starts of walks in each pair of states to which a bill leads, and does with one cent more."""
    _, weight = rule.people[place]
    starts = []
    for state, lead in first_leads(rule.nexts).items():
        # One cent more than the last rest is the rest 0 again, and one of the quotient more.
        cents = rule.cents[state][place] + (weight + rule.cents[state][place][0],)
        nexts = rule.nexts[state] + (rule.nexts[state][0],)
        for amount in range(rule.weight):
            change = sign * (cents[amount + 1] - cents[amount])
            starts.append(((nexts[amount], nexts[amount + 1]), change, lead + [amount]))
    return starts


def pair_ways(rule, place, sign, pair):
    """Return the gains and the next pairs of a pair of states, one for each bill."""
    one, other = pair
    gains = [sign * (more - less) for less, more in zip(rule.cents[one][place], rule.cents[other][place])]
    return list(zip(gains, list(zip(rule.nexts[one], rule.nexts[other]))))


def change_walks(rule, place, sign):
    """Return the starts and ways of walks of which the totals are changes of somebody's share, times the sign."""
    starts = correction_starts(rule, place, sign)
    ways = {}
    ahead = [pair for pair, _, _ in starts]
    while len(ahead) > 0:
        pair = ahead.pop()
        if pair not in ways:
            ways[pair] = pair_ways(rule, place, sign, pair)
            ahead.extend([after for _, after in ways[pair]])
    return starts, ways


def farthest_change(rule, place, sign):
    """Return the greatest or the least change of somebody's share, None if there is none."""
    starts, ways = change_walks(rule, place, sign)
    walk = greatest_walk(starts, ways)
    return None if walk is None else sign * walk[0]


def changes(rule, name):
    """Return the tuple of the least and the greatest change of somebody's share by one cent more of a bill."""
    place = rule.place(name)
    return farthest_change(rule, place, LESS), farthest_change(rule, place, MORE)


def with_rounds(walk, ways):
    """Return the bills of a walk that ends with a round, and its round as often as the total needs to be above 0."""
    total, _, bills, places = walk
    _, turning = round_of(walk)
    gain = 0
    place = places[-1]
    for amount in turning:
        more, place = ways[place][amount]
        gain += more
    return bills + turning * (-total // gain + 1)


def lowered(rule, name):
    """Return a tuple (bills, index) of a bill of which one cent more makes somebody's share less, None if none."""
    starts, ways = change_walks(rule, rule.place(name), LESS)
    best, endless = best_walks(starts, ways)
    total, lead, bills, _ = best_of(best)
    if total <= 0:
        if len(endless) == 0:
            return None
        walk = best_of(endless)
        lead, bills = walk[1], with_rounds(walk, ways)
    return lead + bills, len(lead) - 1


def pairs(rule):
    """Return the ascending list of pairs of the states to which bills lead, and do with one of them a cent more."""
    # They are the same for each of the people.
    _, ways = change_walks(rule, 0, MORE)
    return sorted(ways)


def judge_changes(rule, name, told):
    """Tell whether told tuples (state, state, low, high) show that no change of somebody's share is out of them."""
    starts, ways = change_walks(rule, rule.place(name), MORE)
    if sorted([(one, other) for one, other, _, _ in told]) != sorted(ways):
        return False
    return are_bounds(starts, ways, {(one, other): (low, high) for one, other, low, high in told})
