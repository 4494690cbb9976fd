"""One room of clocks, and the calls on it.

Each call's function gives back its answer as a list of numbers; a refusal is a number below 0 alone.
"""

from clocksroom.bounds import bounds_at, bounds_fit, clock_table, least_fits, least_later, signal_fits
from clocksroom.bounds import surely_at_once, surely_before, with_signal
from clocksroom.rows import bound_row, own_bounds

MOST_CLOCKS = 6
MOST_RATE = 999999
MOST_READING = 1000000
MOST_EVENTS = 24
MOST_SIGNALS = 30
MOST_ON_WAY = 1000000000000

BEGINS = 0
EVENT = 1
SET = 2
SIGNAL = 3
STRIKE = 4
BELIEVED = 5
BETWEEN = 6
ORDER = 7
REASON = 8
AGAINST = 9
COULD = 10
OF = 11

# How many whole numbers stand behind each call's number; of begins it is the length of its row alone.
WIDTHS = (1, 2, 3, 4, 1, 0, 2, 2, 2, 1, 4, 1, 1)


class Event:
    """What a clock showed in one of its eras; the two events of a setting have one instant."""

    def __init__(self, clock, era, reading, instant):
        self.clock = clock
        self.era = era
        self.reading = reading
        self.instant = instant


class Signal:
    """A signal from its first event to its second one."""

    def __init__(self, first, second, least, most):
        self.first = first
        self.second = second
        self.least = least
        self.most = most
        self.struck = False


class Room:
    """The clocks, by their rates, each one's era now and what that began with; the events and the signals."""

    def __init__(self):
        self.renew([0])

    def renew(self, rates):
        """Clocks with these rates and nothing else."""
        self.rates = list(rates)
        self.eras = [0 for rate in rates]
        self.begun = [0 for rate in rates]
        self.events = []
        self.signals = []

    def note(self, clock, reading, instant):
        """One event more, in the clock's era now."""
        self.events.append(Event(clock, self.eras[clock], reading, instant))

    def has_clock(self, clock):
        return clock < len(self.rates)

    def has_event(self, number):
        return number < len(self.events)

    def has_both(self, one, other):
        return self.has_event(one) and self.has_event(other)


class Belief:
    """The numbers of the believed signals, and the table of bounds by them."""

    def __init__(self, numbers, table):
        self.numbers = numbers
        self.table = table


def belief_before(room, end):
    """What is believed of the signals before that number: each is judged by those believed before it."""
    table = clock_table(room.rates, room.events)
    numbers = []
    for number, signal in enumerate(room.signals[:end]):
        if not signal.struck and signal_fits(table, signal):
            table = with_signal(table, signal)
            numbers.append(number)
    return Belief(numbers, table)


def belief_of(room):
    """What is believed in the room."""
    return belief_before(room, len(room.signals))


def row_by(room, belief, start, end):
    """The row of the greatest that the end is later than the start, by what is believed."""
    signals = [room.signals[number] for number in belief.numbers]
    own = own_bounds(room.rates, room.events, signals)
    return bound_row(own, belief.table, start, end)


def begin(room, rates):
    if len(rates) < 1 or len(rates) > MOST_CLOCKS:
        return [-1]
    if max(rates) > MOST_RATE:
        return [-1]
    room.renew(rates)
    return [0]


def tell_event(room, clock, reading):
    if not room.has_clock(clock) or reading > MOST_READING:
        return [-1]
    if reading < room.begun[clock]:
        return [-6]
    number = len(room.events)
    if number >= MOST_EVENTS:
        return [-5]
    room.note(clock, reading, number)
    return [number]


def era_reached(room, clock):
    """The least that the clock can show now: what its era began with and all its readings are behind it."""
    reached = room.begun[clock]
    for event in room.events:
        if event.clock == clock and event.era == room.eras[clock]:
            reached = max(reached, event.reading)
    return reached


def set_clock(room, clock, showed, told):
    if not room.has_clock(clock) or showed > MOST_READING or told > MOST_READING:
        return [-1]
    if showed < era_reached(room, clock):
        return [-6]
    number = len(room.events)
    if number + 2 > MOST_EVENTS:
        return [-5]
    room.note(clock, showed, number)
    room.eras[clock] = room.eras[clock] + 1
    room.begun[clock] = told
    room.note(clock, told, number)
    return [number]


def tell_signal(room, first, second, least, most):
    if not room.has_both(first, second) or first == second:
        return [-1]
    if most < least or most > MOST_ON_WAY:
        return [-1]
    number = len(room.signals)
    if number >= MOST_SIGNALS:
        return [-5]
    room.signals.append(Signal(first, second, least, most))
    return [number]


def signal_refusal(room, number):
    """What is answered to a call on a signal that isn't there or is struck; None to one on another."""
    if number >= len(room.signals):
        return [-2]
    if room.signals[number].struck:
        return [-4]
    return None


def strike(room, number):
    refusal = signal_refusal(room, number)
    if refusal is not None:
        return refusal
    room.signals[number].struck = True
    return [0]


def with_length(numbers):
    """A list as it stands in an answer."""
    return [len(numbers)] + numbers


def bound_list(bound):
    """A bound as it stands in an answer: a list of it alone, or of nothing."""
    if bound is None:
        return with_length([])
    return with_length([bound])


def counted(numbers):
    """A whole answer: how many, then they as a list."""
    return [len(numbers)] + with_length(numbers)


def tell_believed(room):
    return counted(belief_of(room).numbers)


def tell_between(room, base, other):
    if not room.has_both(base, other):
        return [-1]
    table = belief_of(room).table
    return [0] + bound_list(least_later(table, base, other)) + bound_list(table[base][other])


def tell_order(room, base, other):
    if not room.has_both(base, other):
        return [-1]
    table = belief_of(room).table
    if surely_before(table, base, other):
        return [1]
    if surely_before(table, other, base):
        return [2]
    if surely_at_once(table, base, other):
        return [3]
    return [0]


def tell_reason(room, base, other):
    if not room.has_both(base, other):
        return [-1]
    belief = belief_of(room)
    if belief.table[base][other] is None:
        return [-6]
    row = row_by(room, belief, base, other)
    return [len(row) - 1] + with_length(row)


def tell_against(room, number):
    refusal = signal_refusal(room, number)
    if refusal is not None:
        return refusal
    signal = room.signals[number]
    belief = belief_before(room, number)
    if signal_fits(belief.table, signal):
        return [0]
    if not least_fits(belief.table, signal):
        return [1] + with_length(row_by(room, belief, signal.first, signal.second))
    return [2] + with_length(row_by(room, belief, signal.second, signal.first))


def tell_could(room, place, clock, era, reading):
    if not room.has_event(place) or not room.has_clock(clock):
        return [-1]
    if era > room.eras[clock] or reading > MOST_READING:
        return [-1]
    extra = Event(clock, era, reading, len(room.events))
    if bounds_fit(belief_of(room).table, bounds_at(room.rates, room.events, extra, place)):
        return [1]
    return [0]


def tell_of(room, clock):
    if not room.has_clock(clock):
        return [-1]
    # A clock's eras only rise, so that its events by their numbers are era by era already.
    return counted([number for number, event in enumerate(room.events) if event.clock == clock])


def tell_once(room, base):
    if not room.has_event(base):
        return [-1]
    table = belief_of(room).table
    return counted([other for other in range(len(room.events)) if surely_at_once(table, base, other)])


def answer_to(room, call):
    """The answer to one call, which is its number and all that belongs to it."""
    kind = call[0]
    if kind == BEGINS:
        return begin(room, call[2:])
    if kind == EVENT:
        return tell_event(room, call[1], call[2])
    if kind == SET:
        return set_clock(room, call[1], call[2], call[3])
    if kind == SIGNAL:
        return tell_signal(room, call[1], call[2], call[3], call[4])
    if kind == STRIKE:
        return strike(room, call[1])
    if kind == BELIEVED:
        return tell_believed(room)
    if kind == BETWEEN:
        return tell_between(room, call[1], call[2])
    if kind == ORDER:
        return tell_order(room, call[1], call[2])
    if kind == REASON:
        return tell_reason(room, call[1], call[2])
    if kind == AGAINST:
        return tell_against(room, call[1])
    if kind == COULD:
        return tell_could(room, call[1], call[2], call[3], call[4])
    if kind == OF:
        return tell_of(room, call[1])
    # Only once is left: WIDTHS knows of no call behind it.
    return tell_once(room, call[1])


def call_length(calls, at):
    """How many numbers the call that begins there has, its own number too."""
    length = 1 + WIDTHS[calls[at]]
    if calls[at] == BEGINS:
        length = length + calls[at + 1]
    return length


def answers(calls):
    """The answers to all calls on a new room, each behind how many numbers it has."""
    room = Room()
    given = []
    at = 0
    while at < len(calls):
        length = call_length(calls, at)
        answer = answer_to(room, calls[at:at + length])
        given.append(len(answer))
        given.extend(answer)
        at = at + length
    return given
