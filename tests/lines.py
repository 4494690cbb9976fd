"""A line of calls as the tests write it, its answers one by one, and a slow second way to the bounds."""

from clocksroom.room import answers


def begins(*rates):
    return [0, len(rates), *rates]


def event(clock, reading):
    return [1, clock, reading]


def set_to(clock, showed, told):
    return [2, clock, showed, told]


def signal(start, end, least, most):
    return [3, start, end, least, most]


def strike(number):
    return [4, number]


def believed():
    return [5]


def between(i, j):
    return [6, i, j]


def bounds(least, greatest):
    """between's answer."""
    return [0] + ([0] if least is None else [1, least]) + ([0] if greatest is None else [1, greatest])


def listed(*numbers):
    """believed's answer."""
    return [len(numbers), len(numbers), *numbers]


def ask(*calls):
    """Each call's answer."""
    line = [number for call in calls for number in call]
    given = answers(line)
    parts = []
    at = 0
    while at < len(given):
        parts.append(given[at + 1:at + 1 + given[at]])
        at += 1 + given[at]
    assert at == len(given) and len(parts) == len(calls), given
    return parts


def last(*calls):
    """The last call's answer."""
    return ask(*calls)[-1]


class Slow:
    """What the document says of clocks and signals, as a list of 'j is later than i by most so much'."""

    def __init__(self, rates):
        self.rates = rates
        self.events = []
        self.signals = []
        self.eras = [0] * len(rates)
        self.held = []

    def event(self, clock, reading):
        number = len(self.events)
        era = self.eras[clock]
        for k, (clock_k, era_k, reading_k) in enumerate(self.events):
            if clock_k != clock:
                continue
            if era_k == era:
                low, high = (k, number) if reading_k <= reading else (number, k)
                far = abs(reading - reading_k)
                self.held.append((low, high, far * (1000000 + self.rates[clock])))
                self.held.append((high, low, -far * (1000000 - self.rates[clock])))
            else:
                self.held.append((number, k, 0))
        self.events.append((clock, era, reading))

    def set_to(self, clock, showed, told):
        number = len(self.events)
        self.event(clock, showed)
        self.eras[clock] += 1
        self.event(clock, told)
        self.held.append((number, number + 1, 0))

    def believed(self):
        """The numbers of the believed signals, and all that holds by them."""
        held = list(self.held)
        numbers = []
        for number, (start, end, least, most, struck) in enumerate(self.signals):
            more = held + [(start, end, most), (end, start, -least)]
            if not struck and self.times(more, [0] * len(self.events)) is not None:
                held = more
                numbers.append(number)
        return numbers, held

    def times(self, held, times):
        """These times, made earlier until all holds; None if that never ends."""
        times = list(times)
        for again in range(len(self.events) + 2):
            changed = False
            for i, j, most in held:
                if times[j] > times[i] + most:
                    times[j] = times[i] + most
                    changed = True
            if not changed:
                return times
        return None

    def latest(self, held, i, far):
        """True times with i at 0 and all else as late as can be, far away where nothing holds it."""
        return self.times(held, [0 if k == i else far for k in range(len(self.events))])
