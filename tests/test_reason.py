import itertools
import unittest

from tests.lines import (
    Numbers, Slow, against, ask, begins, believed, between, bounds, event, fill, last, of, reason, row, set_to,
    signal, strike)

TWO = [begins(0, 0), event(0, 0), event(1, 0)]
SIX = [begins(0, 0, 0, 0, 0, 0)] + [event(clock, 0) for clock in range(6)]
FAR = 2000000000000


class Reason(unittest.TestCase):
    def test_an_event_is_not_there(self):
        for wrong in (reason(2, 0), reason(0, 2), reason(2, 2), reason(0, FAR), reason(FAR, 0)):
            self.assertEqual(last(*TWO, wrong), [-1])
        self.assertEqual(last(reason(0, 0)), [-1])

    def test_no_bound(self):
        self.assertEqual(last(*TWO, reason(0, 1)), [-6])
        self.assertEqual(last(*TWO, reason(1, 0)), [-6])
        self.assertEqual(last(*TWO, signal(0, 1, 0, 9), strike(0), reason(0, 1)), [-6])

    def test_the_order_of_refusals(self):
        # Of an event that isn't there no bound is known either.
        self.assertEqual(ask(*TWO, reason(0, 1), reason(0, 2), reason(2, 1))[3:], [[-6], [-1], [-1]])

    def test_an_event_with_itself(self):
        self.assertEqual(last(*TWO, reason(1, 1)), [0, 1, 1])
        # A row that goes away and comes back has the same sum, but more events.
        self.assertEqual(last(event(0, 5), event(0, 5), reason(1, 1)), row(1))
        self.assertEqual(last(*TWO, signal(0, 1, 0, 0), reason(0, 0)), row(0))

    def test_one_step_by_the_clock(self):
        line = [begins(100), event(0, 5), event(0, 8)]
        self.assertEqual(last(*line, reason(0, 1)), [1, 2, 0, 1])
        self.assertEqual(last(*line, reason(1, 0)), [1, 2, 1, 0])

    def test_one_step_at_a_setting(self):
        for told in (2, 9, 20):
            self.assertEqual(last(begins(50), set_to(0, 9, told), reason(0, 1)), row(0, 1))
            self.assertEqual(last(begins(50), set_to(0, 9, told), reason(1, 0)), row(1, 0))

    def test_one_step_by_a_signal(self):
        self.assertEqual(last(*TWO, signal(0, 1, 5, 9), reason(0, 1)), row(0, 1))
        self.assertEqual(last(*TWO, signal(0, 1, 5, 9), reason(1, 0)), row(1, 0))

    def test_within_an_era_one_step_is_enough(self):
        line = [begins(100), event(0, 5), event(0, 6), event(0, 7)]
        self.assertEqual(last(*line, reason(0, 2)), row(0, 2))
        self.assertEqual(last(*line, reason(2, 0)), row(2, 0))

    def test_over_a_setting(self):
        line = [begins(100), event(0, 5), set_to(0, 7, 1), event(0, 4)]
        self.assertEqual(last(*line, reason(0, 3)), row(0, 1, 2, 3))
        self.assertEqual(last(*line, reason(3, 0)), row(3, 2, 1, 0))

    def test_straight_to_a_lesser_era(self):
        # What passed within the eras is nothing, so the step of 0 to an event of a lesser era tells as much.
        line = [begins(100), event(0, 7), set_to(0, 7, 1), event(0, 1)]
        self.assertEqual(last(*line, reason(3, 0)), row(3, 0))
        self.assertEqual(last(*line, reason(2, 0)), row(2, 0))
        self.assertEqual(last(*line, reason(0, 2)), row(0, 1, 2))
        self.assertEqual(last(*line, reason(0, 3)), row(0, 1, 2, 3))

    def test_over_several_eras(self):
        line = [begins(10), event(0, 1), set_to(0, 2, 50), set_to(0, 53, 4), event(0, 9)]
        self.assertEqual(last(*line, reason(0, 5)), row(0, 1, 2, 3, 4, 5))
        self.assertEqual(last(*line, reason(5, 0)), row(5, 4, 3, 2, 1, 0))

    def test_past_an_era_in_which_nothing_passed(self):
        line = [begins(10), event(0, 1), set_to(0, 2, 50), set_to(0, 50, 4), event(0, 9)]
        self.assertEqual(last(*line, reason(0, 5)), row(0, 1, 2, 3, 4, 5))
        self.assertEqual(last(*line, reason(5, 0)), row(5, 4, 1, 0))

    def test_over_eras_settings_and_signals(self):
        line = [
            begins(100, 0), event(0, 10), set_to(0, 12, 3), event(0, 5), event(1, 7), set_to(1, 8, 80), event(1, 81),
            signal(3, 4, 1000, 2000)]
        self.assertEqual(last(*line, reason(0, 7)), row(0, 1, 2, 3, 4, 5, 6, 7))
        self.assertEqual(last(*line, reason(7, 0)), row(7, 6, 5, 4, 3, 2, 1, 0))
        self.assertEqual(last(*line, reason(2, 5)), row(2, 3, 4, 5))

    def test_a_row_of_24_events(self):
        line = [begins(9)] + [set_to(0, 5, 4)] * 12
        self.assertEqual(last(*line, reason(0, 23)), row(*range(24)))
        self.assertEqual(last(*line, reason(23, 0)), row(*range(23, -1, -1)))

    def test_fewest_events_ahead_of_lesser_ones(self):
        line = SIX + [signal(0, 1, 0, 4), signal(1, 2, 0, 4), signal(2, 5, 0, 2), signal(0, 4, 0, 3),
                      signal(4, 5, 0, 7)]
        self.assertEqual(last(*line, between(0, 5))[-1:], [10])
        self.assertEqual(last(*line, reason(0, 5)), row(0, 4, 5))
        self.assertEqual(last(*line, signal(0, 5, 0, 10), reason(0, 5)), row(0, 5))
        self.assertEqual(last(*line, signal(0, 5, 0, 11), reason(0, 5)), row(0, 4, 5))

    def test_the_least_sum_ahead_of_fewest_events(self):
        line = SIX + [signal(0, 1, 0, 4), signal(1, 2, 0, 4), signal(2, 5, 0, 1), signal(0, 4, 0, 3),
                      signal(4, 5, 0, 7)]
        self.assertEqual(last(*line, reason(0, 5)), row(0, 1, 2, 5))

    def test_of_several_with_as_few_events_the_first(self):
        line = SIX + [signal(0, 3, 0, 5), signal(3, 5, 0, 5), signal(0, 2, 0, 4), signal(2, 5, 0, 6),
                      signal(0, 4, 0, 6),
                      signal(4, 5, 0, 4)]
        self.assertEqual(last(*line, reason(0, 5)), row(0, 2, 5))
        self.assertEqual(last(*line, strike(2), reason(0, 5)), row(0, 3, 5))

    def test_the_first_place_where_they_differ_decides(self):
        line = SIX + [signal(0, 2, 0, 5), signal(2, 3, 0, 5), signal(3, 5, 0, 5),
                      signal(0, 1, 0, 5), signal(1, 4, 0, 5), signal(4, 5, 0, 5)]
        self.assertEqual(last(*line, reason(0, 5)), row(0, 1, 4, 5))
        line = SIX + [signal(0, 3, 0, 5), signal(3, 4, 0, 5), signal(3, 1, 0, 5), signal(4, 5, 0, 5),
                      signal(1, 5, 0, 5)]
        self.assertEqual(last(*line, reason(0, 5)), row(0, 3, 1, 5))

    def test_towards_the_lesser_number(self):
        line = SIX + [signal(5, 3, 0, 5), signal(3, 0, 0, 5), signal(5, 2, 0, 5), signal(2, 0, 0, 5)]
        self.assertEqual(last(*line, reason(5, 0)), row(5, 2, 0))

    def test_against_the_way_of_the_signals(self):
        line = SIX + [signal(1, 0, 5, 9), signal(5, 1, 5, 9), signal(2, 0, 4, 9), signal(5, 2, 7, 9)]
        self.assertEqual(last(*line, between(0, 5)), bounds(-18, -11))
        self.assertEqual(last(*line, reason(0, 5)), row(0, 2, 5))
        self.assertEqual(last(*line, reason(5, 0)), row(5, 1, 0))

    def test_a_signal_tells_less_than_the_clock(self):
        line = [begins(1000), event(0, 0), event(0, 1), event(0, 2), signal(0, 1, 999500, 1000200)]
        self.assertEqual(last(*line, reason(0, 1)), row(0, 1))
        self.assertEqual(last(*line, reason(0, 2)), row(0, 1, 2))
        self.assertEqual(last(*line, reason(2, 0)), row(2, 1, 0))

    def test_the_clock_tells_less_than_a_signal(self):
        line = [begins(1000), event(0, 0), event(0, 1), event(0, 2), signal(0, 1, 900000, 1100000)]
        self.assertEqual(last(*line, reason(0, 1)), row(0, 1))
        self.assertEqual(last(*line, reason(0, 2)), row(0, 2))
        self.assertEqual(last(*line, reason(2, 0)), row(2, 0))

    def test_a_signal_tells_as_much_as_the_clock(self):
        line = [begins(1000), event(0, 0), event(0, 1), event(0, 2), signal(0, 1, 999000, 1001000)]
        self.assertEqual(last(*line, reason(0, 2)), row(0, 2))

    def test_of_several_signals_the_least_counts(self):
        for first, second in ((9, 15), (15, 9)):
            line = SIX + [signal(0, 1, 0, first), signal(0, 1, 0, second), signal(0, 2, 0, 5), signal(2, 1, 0, 5)]
            self.assertEqual(last(*line, reason(0, 1)), row(0, 1))
        line = SIX + [signal(0, 1, 3, 15), signal(0, 1, 5, 12), signal(0, 2, 2, 9), signal(2, 1, 3, 9)]
        self.assertEqual(last(*line, reason(1, 0)), row(1, 0))
        self.assertEqual(last(*line, strike(1), reason(1, 0)), row(1, 2, 0))

    def test_unbelieved_and_struck_signals_do_not_count(self):
        line = SIX + [signal(0, 1, 5, 9), signal(1, 2, 5, 9), signal(0, 2, 19, 30), signal(0, 2, 0, 9)]
        self.assertEqual(ask(*line, believed(), reason(0, 2), reason(2, 0))[len(line):],
                         [[2, 2, 0, 1], row(0, 1, 2), row(2, 1, 0)])
        line = line + [strike(1)]
        self.assertEqual(ask(*line, believed(), reason(0, 2), reason(2, 0), reason(1, 2))[len(line):],
                         [[2, 2, 0, 2], row(0, 2), row(2, 0), row(1, 0, 2)])

    def test_nothing_is_changed(self):
        line = TWO + [event(0, 1), signal(0, 1, 5, 9)]
        asked = [believed(), between(0, 1), of(0), against(0), event(0, 4), reason(0, 1)]
        plain = ask(*line, *asked)[len(line):]
        told = [reason(0, 1), reason(2, 1), reason(1, 1), reason(0, 3)]
        self.assertEqual(ask(*line, *told, *asked)[len(line) + 4:], plain)


def first_row(own, count, whole, i, j):
    """Of all rows with that sum, by their length and then in order, the first."""
    if i == j:
        return [i]
    others = [k for k in range(count) if k not in (i, j)]
    for size in range(count - 1):
        for middle in itertools.permutations(others, size):
            events = [i, *middle, j]
            steps = list(zip(events, events[1:]))
            if all(step in own for step in steps) and sum(own[step] for step in steps) == whole:
                return events
    raise AssertionError("no row")


class ByAllRows(unittest.TestCase):
    """All rows of small rooms gone through."""

    def check(self, seed):
        numbers = Numbers(seed)
        rates = [numbers.one_of(0, 0, 500000) for k in range(numbers.below(3) + 1)]
        slow = Slow(rates)
        calls = [begins(*rates)]
        fill(numbers, slow, calls, 7)
        held = slow.believed()[1]
        own = slow.own(held)
        count = len(slow.events)
        longest = 0
        for i in range(count):
            given = ask(*calls, *[reason(i, j) for j in range(count)])[len(calls):]
            for j in range(count):
                whole = slow.greatest(held, i, j)
                expected = [-6] if whole is None else row(*first_row(own, count, whole, i, j))
                self.assertEqual(given[j], expected, (seed, i, j))
                longest = max(longest, expected[0])
        return longest

    def test_many_rooms(self):
        longest = [self.check(seed) for seed in range(100)]
        # Rows of one step alone would show little.
        self.assertGreater(len([steps for steps in longest if steps > 2]), 20)


if __name__ == "__main__":
    unittest.main()
