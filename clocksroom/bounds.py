"""Bounds between events.

A table of bounds holds at [i][j] the greatest that event j is later than event i, or None if there is none.
The least needs no table of its own: it is the greatest at [j][i] with the other sign.
"""

MILLION = 1000000


def era_bound(rate, further):
    """The greatest that an event is later whose reading, of the same era, is so much further on."""
    if further >= 0:
        return further * (MILLION + rate)
    return further * (MILLION - rate)


def clock_bound(rates, base, other):
    """The greatest that the other event is later than the base one by what their clock tells, or None."""
    if base.clock != other.clock:
        return None
    if base.era == other.era:
        return era_bound(rates[base.clock], other.reading - base.reading)
    if other.era < base.era or other.instant == base.instant:
        return 0
    return None


def bound_sum(one, other):
    """The sum of two bounds; without one of them there is none."""
    if one is None or other is None:
        return None
    return one + other


def bound_least(one, other):
    """The lesser of two bounds; without one of them the other counts."""
    if one is None:
        return other
    if other is None:
        return one
    return min(one, other)


def row_by_way(row, reach, onward):
    """The row, where one may also go so far to another event and on from there by that event's row."""
    if reach is None:
        return row
    return [bound_least(row[k], bound_sum(reach, onward[k])) for k in range(len(row))]


def with_bound(table, base, other, most):
    """The table when the other event is also at most so much later than the base one."""
    return [row_by_way(row, bound_sum(row[base], most), table[other]) for row in table]


def clock_row(rates, base, events):
    """What the clocks tell by themselves of each event, seen from the base one."""
    return [clock_bound(rates, base, other) for other in events]


def own_clock_bounds(rates, events):
    """What the clocks tell by themselves of each two events."""
    return [clock_row(rates, base, events) for base in events]


def clock_table(rates, events):
    """The table by the clocks alone."""
    table = own_clock_bounds(rates, events)
    # A bound of 0 from an event to itself adds nothing but the ways that lead through it.
    for k in range(len(events)):
        table = with_bound(table, k, k, 0)
    return table


def least_later(table, base, other):
    """The least that the other event is later than the base one, or None."""
    back = table[other][base]
    if back is None:
        return None
    return -back


def surely_before(table, base, other):
    """Whether the base event is before the other one, whatever the true times."""
    back = table[other][base]
    return back is not None and back < 0


def surely_at_once(table, base, other):
    """Whether the two events are at one true time, whatever it is."""
    return table[base][other] == 0 and table[other][base] == 0


def bound_fits(table, base, other, most):
    """Whether the other event can be at most so much later than the base one; None is no bound and fits."""
    whole = bound_sum(table[other][base], most)
    return whole is None or whole >= 0


def least_fits(table, signal):
    """Whether the signal can have been on its way for its least or longer."""
    return bound_fits(table, signal.second, signal.first, -signal.least)


def signal_fits(table, signal):
    """Whether the signal can have been so long on its way by the table."""
    return least_fits(table, signal) and bound_fits(table, signal.first, signal.second, signal.most)


def with_signal(table, signal):
    """The table when the signal, which fits it, is believed."""
    ahead = with_bound(table, signal.first, signal.second, signal.most)
    return with_bound(ahead, signal.second, signal.first, -signal.least)


def bounds_at(rates, events, extra, place):
    """What the clocks tell if the extra event is at the place of one of the events: (base, other, most)."""
    ahead = [(place, k, clock_bound(rates, extra, events[k])) for k in range(len(events))]
    back = [(k, place, clock_bound(rates, events[k], extra)) for k in range(len(events))]
    return ahead + back


def bounds_fit(table, told):
    """Whether all bounds that are told fit the table, each with those before it."""
    for base, other, most in told:
        if not bound_fits(table, base, other, most):
            return False
        table = with_bound(table, base, other, most)
    return True
