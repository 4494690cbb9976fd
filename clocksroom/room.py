"""One room of clocks, and the calls on it.

Each call's function gives back its answer as a list of numbers; a refusal is a number below 0 alone.
"""

from clocksroom.bounds import clock_table, least_later, signal_fits, with_signal

MOST_CLOCKS = 6
MOST_RATE = 999999
MOST_READING = 1000000
MOST_EVENTS = 24
MOST_SIGNALS = 30
MOST_ON_WAY = 1000000000000

BEGINS = 0
EVENT = 1
SET = 2
SIGNAL = 3
STRIKE = 4
BELIEVED = 5

# How many whole numbers stand behind each call's number; of begins it is the length of its row alone.
WIDTHS = (1, 2, 3, 4, 1, 0, 2)


class Event:
    """What a clock showed in one of its eras; the two events of a setting have one instant."""

    def __init__(self, clock, era, reading, instant):
        self.clock = clock
        self.era = era
        self.reading = reading
        self.instant = instant


class Signal:
    """A signal from its first event to its second one."""

    def __init__(self, first, second, least, most):
        self.first = first
        self.second = second
        self.least = least
        self.most = most
        self.struck = False


class Room:
    """The clocks, by their rates, each one's era now and what that began with; the events and the signals."""

    def __init__(self):
        self.renew([0])

    def renew(self, rates):
        """Clocks with these rates and nothing else."""
        self.rates = list(rates)
        self.eras = [0 for rate in rates]
        self.begun = [0 for rate in rates]
        self.events = []
        self.signals = []

    def note(self, clock, reading, instant):
        """One event more, in the clock's era now."""
        self.events.append(Event(clock, self.eras[clock], reading, instant))

    def has_clock(self, clock):
        return clock < len(self.rates)

    def has_event(self, number):
        return number < len(self.events)


class Belief:
    """The numbers of the believed signals, and the table of bounds by them."""

    def __init__(self, numbers, table):
        self.numbers = numbers
        self.table = table


def belief_of(room):
    """What is believed in the room: each signal is judged by those believed before it."""
    table = clock_table(room.rates, room.events)
    numbers = []
    for number, signal in enumerate(room.signals):
        if not signal.struck and signal_fits(table, signal):
            table = with_signal(table, signal)
            numbers.append(number)
    return Belief(numbers, table)


def begin(room, rates):
    if len(rates) < 1 or len(rates) > MOST_CLOCKS:
        return [-1]
    if max(rates) > MOST_RATE:
        return [-1]
    room.renew(rates)
    return [0]


def tell_event(room, clock, reading):
    if not room.has_clock(clock) or reading > MOST_READING:
        return [-1]
    if reading < room.begun[clock]:
        return [-6]
    number = len(room.events)
    if number >= MOST_EVENTS:
        return [-5]
    room.note(clock, reading, number)
    return [number]


def era_reached(room, clock):
    """The least that the clock can show now: what its era began with and all its readings are behind it."""
    reached = room.begun[clock]
    for event in room.events:
        if event.clock == clock and event.era == room.eras[clock]:
            reached = max(reached, event.reading)
    return reached


def set_clock(room, clock, showed, told):
    if not room.has_clock(clock) or showed > MOST_READING or told > MOST_READING:
        return [-1]
    if showed < era_reached(room, clock):
        return [-6]
    number = len(room.events)
    if number + 2 > MOST_EVENTS:
        return [-5]
    room.note(clock, showed, number)
    room.eras[clock] = room.eras[clock] + 1
    room.begun[clock] = told
    room.note(clock, told, number)
    return [number]


def tell_signal(room, first, second, least, most):
    if not room.has_event(first) or not room.has_event(second) or first == second:
        return [-1]
    if most < least or most > MOST_ON_WAY:
        return [-1]
    number = len(room.signals)
    if number >= MOST_SIGNALS:
        return [-5]
    room.signals.append(Signal(first, second, least, most))
    return [number]


def strike(room, number):
    if number >= len(room.signals):
        return [-2]
    signal = room.signals[number]
    if signal.struck:
        return [-4]
    signal.struck = True
    return [0]


def with_length(numbers):
    """A list as it stands in an answer."""
    return [len(numbers)] + numbers


def bound_list(bound):
    """A bound as it stands in an answer: a list of it alone, or of nothing."""
    if bound is None:
        return with_length([])
    return with_length([bound])


def tell_believed(room):
    numbers = belief_of(room).numbers
    return [len(numbers)] + with_length(numbers)


def tell_between(room, base, other):
    if not room.has_event(base) or not room.has_event(other):
        return [-1]
    table = belief_of(room).table
    return [0] + bound_list(least_later(table, base, other)) + bound_list(table[base][other])


def answer_to(room, call):
    """The answer to one call, which is its number and all that belongs to it."""
    kind = call[0]
    if kind == BEGINS:
        return begin(room, call[2:])
    if kind == EVENT:
        return tell_event(room, call[1], call[2])
    if kind == SET:
        return set_clock(room, call[1], call[2], call[3])
    if kind == SIGNAL:
        return tell_signal(room, call[1], call[2], call[3], call[4])
    if kind == STRIKE:
        return strike(room, call[1])
    if kind == BELIEVED:
        return tell_believed(room)
    # Only between is left: WIDTHS knows of no call behind it.
    return tell_between(room, call[1], call[2])


def call_length(calls, at):
    """How many numbers the call that begins there has, its own number too."""
    length = 1 + WIDTHS[calls[at]]
    if calls[at] == BEGINS:
        length = length + calls[at + 1]
    return length


def answers(calls):
    """The answers to all calls on a new room, each behind how many numbers it has."""
    room = Room()
    given = []
    at = 0
    while at < len(calls):
        length = call_length(calls, at)
        answer = answer_to(room, calls[at:at + length])
        given.append(len(answer))
        given.extend(answer)
        at = at + length
    return given
