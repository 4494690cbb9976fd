"""A line of calls as the tests write it, its answers one by one, and a slow second way to all of them."""

from clocksroom.room import answers


def begins(*rates):
    return [0, len(rates), *rates]


def event(clock, reading):
    return [1, clock, reading]


def set_to(clock, showed, told):
    return [2, clock, showed, told]


def signal(start, end, least, most):
    return [3, start, end, least, most]


def strike(number):
    return [4, number]


def believed():
    return [5]


def between(i, j):
    return [6, i, j]


def order(i, j):
    return [7, i, j]


def reason(i, j):
    return [8, i, j]


def against(number):
    return [9, number]


def could(number, clock, era, reading):
    return [10, number, clock, era, reading]


def of(clock):
    return [11, clock]


def once(number):
    return [12, number]


def bounds(least, greatest):
    """between's answer."""
    return [0] + ([0] if least is None else [1, least]) + ([0] if greatest is None else [1, greatest])


def listed(*numbers):
    """The answer of believed, of and once."""
    return [len(numbers), len(numbers), *numbers]


def row(*events):
    """reason's answer."""
    return [len(events) - 1, len(events), *events]


def against_row(which, *events):
    """against's answer of a signal that isn't believed."""
    return [which, len(events), *events]


def ask(*calls):
    """Each call's answer."""
    line = [number for call in calls for number in call]
    given = answers(line)
    parts = []
    at = 0
    while at < len(given):
        parts.append(given[at + 1:at + 1 + given[at]])
        at += 1 + given[at]
    assert at == len(given) and len(parts) == len(calls), given
    return parts


def last(*calls):
    """The last call's answer."""
    return ask(*calls)[-1]


class Numbers:
    """Numbers in a row that look like chance and are the same every time."""

    def __init__(self, seed):
        self.state = seed

    def below(self, most):
        self.state = (self.state * 6364136223846793005 + 1442695040888963407) % 2 ** 64
        return (self.state >> 33) % most

    def one_of(self, *choices):
        return choices[self.below(len(choices))]


class Slow:
    """What the document says of clocks and signals, as a list of 'j is later than i by most so much'."""

    # So late that no bound of a room reaches half of it.
    FAR = 10 ** 18

    def __init__(self, rates):
        self.rates = rates
        self.events = []
        self.signals = []
        self.eras = [0] * len(rates)
        self.begun = [0] * len(rates)
        self.held = []

    def clocks_hold(self, number, clock, era, reading):
        """What clocks allow of an event with that number and those told before."""
        held = []
        for k, (clock_k, era_k, reading_k) in enumerate(self.events):
            if clock_k != clock:
                continue
            if era_k == era:
                low, high = (k, number) if reading_k <= reading else (number, k)
                far = abs(reading - reading_k)
                held.append((low, high, far * (1000000 + self.rates[clock])))
                held.append((high, low, -far * (1000000 - self.rates[clock])))
            else:
                low, high = (k, number) if era_k < era else (number, k)
                held.append((high, low, 0))
        return held

    def event(self, clock, reading):
        era = self.eras[clock]
        self.held += self.clocks_hold(len(self.events), clock, era, reading)
        self.events.append((clock, era, reading))

    def set_to(self, clock, showed, told):
        number = len(self.events)
        self.event(clock, showed)
        self.eras[clock] += 1
        self.begun[clock] = told
        self.event(clock, told)
        self.held.append((number, number + 1, 0))

    def believed(self, end=None):
        """The numbers of the believed signals, of those before the end, and all that holds by them."""
        held = list(self.held)
        numbers = []
        for number, (start, to, least, most, struck) in enumerate(self.signals[:end]):
            more = held + [(start, to, most), (to, start, -least)]
            if not struck and self.times(more, [0] * len(self.events)) is not None:
                held = more
                numbers.append(number)
        return numbers, held

    def times(self, held, times):
        """These times, made earlier until all holds; None if that never ends."""
        times = list(times)
        for again in range(len(times) + 2):
            changed = False
            for i, j, most in held:
                if times[j] > times[i] + most:
                    times[j] = times[i] + most
                    changed = True
            if not changed:
                return times
        return None

    def greatest(self, held, i, j):
        """True times with i at 0 and all else as late as can be tell it; None where nothing holds j."""
        late = self.times(held, [0 if k == i else self.FAR for k in range(len(self.events))])[j]
        return late if late < self.FAR // 2 else None

    def least(self, held, i, j):
        back = self.greatest(held, j, i)
        return None if back is None else -back

    def order(self, held, i, j):
        least, greatest = self.least(held, i, j), self.greatest(held, i, j)
        if least is not None and least > 0:
            return 1
        if greatest is not None and greatest < 0:
            return 2
        return 3 if (least, greatest) == (0, 0) else 0

    def own(self, held):
        least = {}
        for i, j, most in held:
            least[i, j] = min(most, least.get((i, j), most))
        return least

    def row(self, held, i, j):
        """The row by how far the end still is with so many steps left."""
        own = self.own(held)
        left = [{j: 0}]
        whole = self.greatest(held, i, j)
        while left[-1].get(i) != whole:
            sums = {}
            for (here, onward), most in own.items():
                if onward in left[-1]:
                    so_far = most + left[-1][onward]
                    sums[here] = min(so_far, sums.get(here, so_far))
            left.append(sums)
        events = [i]
        for sums in reversed(left[:-1]):
            here = events[-1]
            events.append(min(k for k in sums if (here, k) in own and own[here, k] + sums[k] == whole))
            whole -= own[here, events[-1]]
        return events

    def against(self, number):
        start, to, least, most, struck = self.signals[number]
        known, held = self.believed(number + 1)
        if number in known:
            return [0]
        greatest = self.greatest(held, start, to)
        if greatest is not None and greatest < least:
            return against_row(1, *self.row(held, start, to))
        return against_row(2, *self.row(held, to, start))

    def could(self, held, at, clock, era, reading):
        extra = len(self.events)
        more = held + [(at, extra, 0), (extra, at, 0)] + self.clocks_hold(extra, clock, era, reading)
        return 0 if self.times(more, [0] * (extra + 1)) is None else 1

    def of(self, clock):
        return sorted((k for k, told in enumerate(self.events) if told[0] == clock), key=lambda k: self.events[k][1])


def fill(numbers, slow, calls, most_events=24):
    """Events, settings, signals and strikes, told to both."""
    for k in range(numbers.below(20) + 4):
        which = numbers.below(10)
        count = len(slow.events)
        clock = numbers.below(len(slow.rates))
        reached = [r for c, e, r in slow.events if (c, e) == (clock, slow.eras[clock])]
        if which < 4 and count < most_events:
            reading = slow.begun[clock] + numbers.below(6)
            slow.event(clock, reading)
            calls.append(event(clock, reading))
        elif which < 5 and count < most_events - 1:
            showed = max(reached, default=0) + numbers.below(3)
            told = numbers.below(9)
            slow.set_to(clock, showed, told)
            calls.append(set_to(clock, showed, told))
        elif which < 9 and count > 1:
            start = numbers.below(count)
            end = (start + 1 + numbers.below(count - 1)) % count
            least = numbers.below(4) * 500000
            most = least + numbers.below(3) * 700000
            slow.signals.append([start, end, least, most, False])
            calls.append(signal(start, end, least, most))
        elif which == 9 and slow.signals:
            number = numbers.below(len(slow.signals))
            if not slow.signals[number][4]:
                slow.signals[number][4] = True
                calls.append(strike(number))


class SlowRoom:
    """Every call of a line answered by the slow way."""

    def __init__(self):
        self.slow = Slow([0])

    def answer(self, call):
        told = (self.begins, self.event, self.set_to, self.signal, self.strike, self.believed, self.between,
                self.order, self.reason, self.against, self.could, self.of, self.once)
        return told[call[0]](*call[1:])

    def no_event(self, *numbers):
        return max(numbers) >= len(self.slow.events)

    def no_clock(self, clock):
        return clock >= len(self.slow.rates)

    def begins(self, count, *rates):
        if not 1 <= count <= 6 or max(rates) > 999999:
            return [-1]
        self.slow = Slow(list(rates))
        return [0]

    def event(self, clock, reading):
        if self.no_clock(clock) or reading > 1000000:
            return [-1]
        if reading < self.slow.begun[clock]:
            return [-6]
        if len(self.slow.events) == 24:
            return [-5]
        self.slow.event(clock, reading)
        return [len(self.slow.events) - 1]

    def set_to(self, clock, showed, told):
        if self.no_clock(clock) or max(showed, told) > 1000000:
            return [-1]
        shown = [r for c, e, r in self.slow.events if (c, e) == (clock, self.slow.eras[clock])]
        if showed < max(shown + [self.slow.begun[clock]]):
            return [-6]
        if len(self.slow.events) > 22:
            return [-5]
        self.slow.set_to(clock, showed, told)
        return [len(self.slow.events) - 2]

    def signal(self, start, end, least, most):
        if self.no_event(start, end) or start == end or most < least or most > 1000000000000:
            return [-1]
        if len(self.slow.signals) == 30:
            return [-5]
        self.slow.signals.append([start, end, least, most, False])
        return [len(self.slow.signals) - 1]

    def refused(self, number):
        if number >= len(self.slow.signals):
            return [-2]
        return [-4] if self.slow.signals[number][4] else []

    def strike(self, number):
        if self.refused(number):
            return self.refused(number)
        self.slow.signals[number][4] = True
        return [0]

    def believed(self):
        return listed(*self.slow.believed()[0])

    def held(self):
        return self.slow.believed()[1]

    def between(self, i, j):
        if self.no_event(i, j):
            return [-1]
        return bounds(self.slow.least(self.held(), i, j), self.slow.greatest(self.held(), i, j))

    def order(self, i, j):
        return [-1] if self.no_event(i, j) else [self.slow.order(self.held(), i, j)]

    def reason(self, i, j):
        if self.no_event(i, j):
            return [-1]
        if self.slow.greatest(self.held(), i, j) is None:
            return [-6]
        return row(*self.slow.row(self.held(), i, j))

    def against(self, number):
        return self.refused(number) or self.slow.against(number)

    def could(self, at, clock, era, reading):
        if self.no_event(at) or self.no_clock(clock) or era > self.slow.eras[clock] or reading > 1000000:
            return [-1]
        return [self.slow.could(self.held(), at, clock, era, reading)]

    def of(self, clock):
        return [-1] if self.no_clock(clock) else listed(*self.slow.of(clock))

    def once(self, number):
        if self.no_event(number):
            return [-1]
        held = self.held()
        return listed(*[k for k in range(len(self.slow.events)) if self.slow.order(held, number, k) == 3])
