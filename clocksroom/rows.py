"""The row of a bound: the events along which own bounds sum up to it."""

from clocksroom.bounds import bound_least, bound_sum, own_clock_bounds


def own_bounds(rates, events, signals):
    """The bound that stands between each two events by itself, by their clock or by one of these signals."""
    own = own_clock_bounds(rates, events)
    for signal in signals:
        ahead = own[signal.first][signal.second]
        back = own[signal.second][signal.first]
        own[signal.first][signal.second] = bound_least(ahead, signal.most)
        own[signal.second][signal.first] = bound_least(back, -signal.least)
    return own


def leads_on(own, table, here, onward, end):
    """Whether a row of the greatest from here to the end, which must be there, may begin with the step onward."""
    return bound_sum(own[here][onward], table[onward][end]) == table[here][end]


def bound_row(own, table, start, end):
    """The row of the greatest that the end is later than the start; there must be such a bound."""
    rows = [[start]]
    seen = {start: True}
    at = 0
    # Rows grow by their length, and of one length in order: whichever is first to reach an event is its row.
    while rows[at][-1] != end:
        here = rows[at][-1]
        for onward in range(len(own)):
            if onward not in seen and leads_on(own, table, here, onward, end):
                seen[onward] = True
                rows.append(rows[at] + [onward])
        at = at + 1
    return rows[at]
