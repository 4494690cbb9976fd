"""Whole lines of calls of all kinds, each answer compared with the slow way's."""

import unittest

from clocksroom.room import answers
from tests.lines import (
    Numbers, SlowRoom, against, ask, begins, believed, between, could, event, of, once, order, reason, set_to, signal,
    strike)


def telling(numbers, slow):
    """A call that tells something, mostly such that it isn't refused."""
    clock = numbers.below(len(slow.rates))
    count = len(slow.events)
    which = numbers.below(20)
    if which < 6 or count < 2:
        return event(clock, slow.begun[clock] + numbers.below(6))
    if which < 9:
        shown = [r for c, e, r in slow.events if (c, e) == (clock, slow.eras[clock])]
        return set_to(clock, max(shown, default=0) + numbers.below(3), numbers.below(9))
    if which < 19:
        least = numbers.below(5) * 500000
        return signal(numbers.below(count), numbers.below(count), least, least + numbers.below(4) * 500000)
    return strike(numbers.below(len(slow.signals) + 1))


def asking(numbers, slow):
    """A call that asks something; now and then of what isn't there."""
    i, j = numbers.below(len(slow.events) + 1), numbers.below(len(slow.events) + 1)
    clock = numbers.below(len(slow.rates) + 1)
    era = numbers.below((slow.eras + [0])[clock] + 2)
    number = numbers.below(len(slow.signals) + 1)
    return numbers.one_of(
        believed(), between(i, j), order(i, j), order(j, i), reason(i, j), reason(j, i), against(number),
        against(number), could(i, clock, era, numbers.below(12)), could(j, clock, era, numbers.below(12)), of(clock),
        once(i))


def full_room():
    """24 events over three clocks with settings, and 30 signals of which some are believed; 44 calls."""
    calls = [begins(0, 100000, 999999)]
    for k in range(11):
        calls.append(set_to(k % 3, 2 + k % 3, k % 2))
    calls += [event(0, 6), event(1, 7)]
    for k in range(30):
        start = k * 7 % 24
        end = (start + 1 + k * 5 % 23) % 24
        calls.append(signal(start, end, k % 4 * 500000, (k % 4 + k % 3) * 500000))
    return calls


class Whole(unittest.TestCase):
    def compare(self, calls):
        """The answers, after each was compared."""
        room = SlowRoom()
        given = ask(*calls)
        for number, call in enumerate(calls):
            self.assertEqual(given[number], room.answer(call), (number, calls))
        return given

    def line(self, seed):
        numbers = Numbers(seed)
        rates = [numbers.one_of(0, 0, 100000, 999999) for k in range(numbers.below(3) + 1)]
        room = SlowRoom()
        calls = [begins(*rates)]
        # Some rooms are filled first, so that what is asked is asked of many events and signals.
        until = numbers.one_of(0, 20, 45)
        while len(calls) < 60:
            room.answer(calls[-1])
            make = telling if len(calls) < until or numbers.below(3) == 0 else asking
            calls.append(make(numbers, room.slow))
        return calls

    def test_lines_of_60_calls_of_all_kinds(self):
        seen = {}
        for seed in range(80):
            calls = self.line(seed)
            given = self.compare(calls)
            for call, answer in zip(calls, given):
                seen[call[0], answer[0]] = seen.get((call[0], answer[0]), 0) + 1
        # Each answer of order, against and could, and each refusal that asking may meet, was among them.
        for kind, first in ((7, 0), (7, 1), (7, 2), (7, 3), (7, -1), (8, 0), (8, 1), (8, 2), (8, 3), (8, -6), (8, -1),
                            (9, 0), (9, 1), (9, 2), (9, -2), (9, -4), (10, 0), (10, 1), (10, -1), (11, -1), (12, -1)):
            self.assertGreater(seen.get((kind, first), 0), 4, (kind, first))

    def test_24_events_and_30_signals(self):
        calls = full_room()
        self.assertEqual(len(calls), 44)
        asked = [believed(), event(2, 5), set_to(2, 9, 9), signal(0, 1, 0, 0), order(0, 23), reason(0, 23),
                 reason(22, 1), against(29), could(5, 1, 2, 1), could(23, 2, 0, 2), of(2), once(4), between(3, 20),
                 strike(0), believed(), reason(0, 23)]
        given = self.compare(calls + asked)
        self.assertEqual([answer[0] for answer in given[45:48]], [-5, -5, -5])
        # A room where all is believed, or nothing, would show little.
        self.assertGreater(given[44][0], 4)
        self.assertLess(given[44][0], 26)
        self.assertEqual(len(calls + asked), 60)

    def test_all_events_and_signals_asked(self):
        calls = full_room()
        for first in range(0, 24, 4):
            self.compare(calls + [reason(first + k // 4, (first + k * 5) % 24) for k in range(16)])
            self.compare(calls + [order(first + k // 4, (first + k * 7) % 24) for k in range(16)])
        for first in (0, 15):
            self.compare(calls + [against(first + k) for k in range(15)])

    def test_six_clocks(self):
        calls = [begins(0, 1, 20, 300, 4000, 50000)] + [event(k % 6, k // 6) for k in range(24)]
        calls += [signal(k, k + 1, 1000, 2000) for k in range(0, 10)]
        calls += [reason(0, 23), reason(23, 0), order(0, 23), once(3), could(0, 5, 0, 0), could(0, 5, 0, 1), of(5),
                  believed(), against(9)]
        self.compare(calls)

    def test_the_greatest_numbers(self):
        far = 2000000000000
        calls = [begins(999999, 999999), event(0, 0), event(0, 1000000), event(1, 0), event(1, 1000000),
                 signal(1, 2, 1000000000000, 1000000000000), between(0, 3), between(3, 0), reason(0, 3), reason(3, 0),
                 order(0, 3), order(3, 0), could(1, 1, 0, 0), could(2, 0, 0, 1000000), order(far, far),
                 reason(far, far),
                 against(far), could(far, far, far, far), of(far), once(far), strike(far), event(far, far)]
        self.compare(calls)

    def test_what_is_handed_in_is_as_it_was_and_again_gives_the_same(self):
        for seed in range(3):
            line = [number for call in self.line(seed) for number in call]
            copied = list(line)
            first = answers(line)
            self.assertEqual(line, copied)
            self.assertEqual(answers(line), first)
            self.assertEqual({type(number) for number in first}, {int})
            self.assertEqual(line, copied)


if __name__ == "__main__":
    unittest.main()
