"""Walks from place to place, a state or a pair of states, on which each bill adds a gain to a total.

Starts are a list of tuples (place, total, lead): where walks begin, their total there, and the bills ahead of it.
Ways are a dict that has for each place that comes about a list of tuples (gain, next place), one for each bill from 0
to one less than the whole weight. A walk is a tuple (total, lead, bills, places) of the bills behind the lead, and of
the places from the first to the last one.
"""

# The sign of totals: greatest ones are sought, so that the least ones are the negatives of those with the other sign.
MORE = 1
LESS = -1


def first_leads(nexts):
    """Return a dict that has each state that comes about, in order, and the first list of bills that leads to it."""
    found = {0: []}
    order = [0]
    at = 0
    while at < len(order):
        lead = found[order[at]]
        row = nexts[order[at]]
        for amount, after in enumerate(row):
            if after not in found:
                found[after] = lead + [amount]
                order.append(after)
        at += 1
    return found


def places_beyond(place, ways):
    """Return the list of a place and all others to which bills lead from it."""
    found = {place: True}
    order = [place]
    at = 0
    while at < len(order):
        row = ways[order[at]]
        for _, after in row:
            if after not in found:
                found[after] = True
                order.append(after)
        at += 1
    return order


def first_walks(starts):
    """Return a dict that has for each place in which walks begin the one with the greatest total, without bills."""
    best = {}
    for place, total, lead in starts:
        if place not in best or total > best[place][0]:
            best[place] = (total, lead, [], [place])
    return best


def longer_walks(best, front, ways):
    """Return a dict of walks by one bill longer than those in front, if their totals are greater than the best ones."""
    found = {}
    for place, (total, lead, bills, places) in front.items():
        for amount, (gain, after) in enumerate(ways[place]):
            known = found.get(after, best.get(after))
            if known is None or total + gain > known[0]:
                found[after] = (total + gain, lead, bills + [amount], places + [after])
    return found


def best_walks(starts, ways):
    """Return a dict of the best walks, and a dict of the places with totals without end, with a walk that shows it.

    A walk that comes back to a place with a greater total than the best ones have there, its own first part among
    them, makes a round that can be made again and again. No walk from the places beyond leads to others again, so that
    they are left out from then on. All other walks have fewer bills than there are places, which is why this ends.
    """
    best = first_walks(starts)
    endless = {}
    front = first_walks(starts)
    while len(front) > 0:
        found = longer_walks(best, front, ways)
        for place, walk in found.items():
            best[place] = walk
            if place not in endless and place in walk[3][:-1]:
                for beyond in places_beyond(place, ways):
                    endless[beyond] = walk
        front = {place: walk for place, walk in found.items() if place not in endless}
    return best, endless


def total_of(walk):
    """Return the total of a walk."""
    return walk[0]


def best_of(walks):
    """Return the walk with the greatest total out of a dict of walks."""
    return max(list(walks.values()), key=total_of)


def greatest_walk(starts, ways):
    """Return a walk with the greatest total of all, None if there is none."""
    best, endless = best_walks(starts, ways)
    return None if len(endless) > 0 else best_of(best)


def greatest_totals(starts, ways):
    """Return a dict of the greatest total of the walks to each place, None where there is none."""
    best, endless = best_walks(starts, ways)
    return {place: None if place in endless else best[place][0] for place in ways}


def round_of(walk):
    """Return the bills of a walk ahead of the round that it makes at its end, and those of the round."""
    _, _, bills, places = walk
    first = places.index(places[-1])
    return bills[:first], bills[first:]


def leads_within(ends, gain, others):
    """Tell whether a gain leads from two ends (low, high) to such as lie within two other ones; None is beyond all."""
    low, high = ends
    if others[0] is not None and (low is None or low + gain < others[0]):
        return False
    return others[1] is None or (high is not None and high + gain <= others[1])


def are_bounds(starts, ways, told):
    """Tell whether told ends, a dict of tuples (low, high) for all places, show that no walk leaves them.

    No low is above its high then, as some walk comes to each place, and its total lies between them.
    """
    for place, total, _ in starts:
        if not leads_within((total, total), 0, told[place]):
            return False
    for place, row in ways.items():
        if not all([leads_within(told[place], gain, told[after]) for gain, after in row]):
            return False
    return True
