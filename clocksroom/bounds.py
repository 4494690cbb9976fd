"""Bounds between events.

A table of bounds holds at [i][j] the greatest that event j is later than event i, or None if there is none.
The least needs no table of its own: it is the greatest at [j][i] with the other sign.
"""

MILLION = 1000000


def era_bound(rate, further):
    """The greatest that an event is later whose reading, of the same era, is so much further on."""
    if further >= 0:
        return further * (MILLION + rate)
    return further * (MILLION - rate)


def clock_bound(rates, base, other):
    """The greatest that the other event is later than the base one by what their clock tells, or None."""
    if base.clock != other.clock:
        return None
    if base.era == other.era:
        return era_bound(rates[base.clock], other.reading - base.reading)
    if other.era < base.era or other.instant == base.instant:
        return 0
    return None


def bound_sum(one, other):
    """The sum of two bounds; without one of them there is none."""
    if one is None or other is None:
        return None
    return one + other


def bound_least(one, other):
    """The lesser of two bounds; without one of them the other counts."""
    if one is None:
        return other
    if other is None:
        return one
    return min(one, other)


def row_by_way(row, reach, onward):
    """The row, where one may also go so far to another event and on from there by that event's row."""
    if reach is None:
        return row
    return [bound_least(row[k], bound_sum(reach, onward[k])) for k in range(len(row))]


def with_bound(table, base, other, most):
    """The table when the other event is also at most so much later than the base one."""
    return [row_by_way(row, bound_sum(row[base], most), table[other]) for row in table]


def clock_row(rates, base, events):
    """What the clocks tell by themselves of each event, seen from the base one."""
    return [clock_bound(rates, base, other) for other in events]


def clock_table(rates, events):
    """The table by the clocks alone."""
    table = [clock_row(rates, base, events) for base in events]
    # A bound of 0 from an event to itself adds nothing but the ways that lead through it.
    for k in range(len(events)):
        table = with_bound(table, k, k, 0)
    return table


def least_later(table, base, other):
    """The least that the other event is later than the base one, or None."""
    back = table[other][base]
    if back is None:
        return None
    return -back


def signal_fits(table, signal):
    """Whether the signal can have been so long on its way by the table."""
    greatest = table[signal.first][signal.second]
    if greatest is not None and greatest < signal.least:
        return False
    least = least_later(table, signal.first, signal.second)
    return least is None or least <= signal.most


def with_signal(table, signal):
    """The table when the signal, which fits it, is believed."""
    ahead = with_bound(table, signal.first, signal.second, signal.most)
    return with_bound(ahead, signal.second, signal.first, -signal.least)
