import unittest

from clocksroom.room import Event, Room, tell_between
from tests.lines import (
    Numbers, Slow, ask, begins, believed, between, bounds, event, fill, last, listed, set_to, signal, strike)


class Between(unittest.TestCase):
    def test_an_event_is_not_there(self):
        self.assertEqual(last(event(0, 0), between(1, 0)), [-1])
        self.assertEqual(last(event(0, 0), between(0, 1)), [-1])
        self.assertEqual(last(event(0, 0), between(1, 1)), [-1])
        self.assertEqual(last(between(0, 0)), [-1])
        self.assertEqual(last(event(0, 0), between(0, 2000000000000)), [-1])

    def test_after_a_refusal_all_is_as_it_was(self):
        told = [begins(0, 0), event(0, 0), event(1, 0), signal(0, 1, 2, 3)]
        self.assertEqual(ask(*told, between(0, 2), between(0, 1), believed(), event(0, 0))[4:],
                         [[-1], bounds(2, 3), listed(0), [2]])

    def test_an_event_with_itself(self):
        self.assertEqual(last(begins(9, 9), event(1, 5), between(0, 0)), [0, 1, 0, 1, 0])

    def test_of_one_era(self):
        told = [begins(100), event(0, 5), event(0, 8), event(0, 8)]
        self.assertEqual(last(*told, between(0, 1)), [0, 1, 2999700, 1, 3000300])
        self.assertEqual(last(*told, between(1, 0)), [0, 1, -3000300, 1, -2999700])
        self.assertEqual(last(*told, between(1, 2)), [0, 1, 0, 1, 0])

    def test_the_greatest_rate_and_reading(self):
        told = [begins(999999), event(0, 0), event(0, 1000000)]
        self.assertEqual(last(*told, between(0, 1)), bounds(1000000, 1999999000000))
        self.assertEqual(last(*told, between(1, 0)), bounds(-1999999000000, -1000000))

    def test_of_different_clocks_no_bound(self):
        self.assertEqual(last(begins(0, 0), event(0, 5), event(1, 8), between(0, 1)), [0, 0, 0])

    def test_the_two_of_a_setting(self):
        for told in (2, 9, 20):
            self.assertEqual(last(begins(50), set_to(0, 9, told), between(0, 1)), bounds(0, 0))
            self.assertEqual(last(begins(50), set_to(0, 9, told), between(1, 0)), bounds(0, 0))

    def test_set_back_and_set_forward(self):
        for told in (1, 100):
            line = [begins(100), event(0, 5), set_to(0, 7, told), event(0, told + 3)]
            self.assertEqual(last(*line, between(0, 3)), bounds(4999500, 5000500))
            self.assertEqual(last(*line, between(3, 0)), bounds(-5000500, -4999500))
            self.assertEqual(last(*line, between(0, 2)), bounds(1999800, 2000200))
            self.assertEqual(last(*line, between(1, 3)), bounds(2999700, 3000300))

    def test_over_several_eras(self):
        line = [begins(10), event(0, 1), set_to(0, 2, 50), set_to(0, 53, 4), event(0, 9)]
        self.assertEqual(last(*line, between(0, 5)), bounds(8999910, 9000090))
        self.assertEqual(last(*line, between(1, 4)), bounds(2999970, 3000030))

    def test_events_that_nothing_joins_have_no_bound(self):
        line = [begins(0, 0, 0), event(0, 0), event(1, 0), event(2, 0), signal(0, 1, 3, 5)]
        self.assertEqual(last(*line, between(0, 1)), bounds(3, 5))
        self.assertEqual(last(*line, between(0, 2)), bounds(None, None))
        self.assertEqual(last(*line, between(2, 1)), bounds(None, None))

    def test_the_greatest_way_off(self):
        line = [begins(0, 0), event(0, 1), event(1, 1), signal(0, 1, 10, 1000000000000)]
        self.assertEqual(last(*line, between(0, 1)), bounds(10, 1000000000000))
        self.assertEqual(last(*line, between(1, 0)), bounds(-1000000000000, -10))

    def test_one_bound_alone(self):
        # No line leads here, for each era but the first begins with a setting that joins it to the one before;
        # so the room is made by hand, with two eras and no setting.
        room = Room()
        room.events = [Event(0, 0, 5, 0), Event(0, 1, 3, 1)]
        self.assertEqual(tell_between(room, 0, 1), [0, 1, 0, 0])
        self.assertEqual(tell_between(room, 1, 0), [0, 0, 1, 0])

    def test_signals_either_way(self):
        line = [begins(0, 0), event(0, 0), event(1, 0), signal(0, 1, 3, 5)]
        self.assertEqual(last(*line, between(0, 1)), bounds(3, 5))
        self.assertEqual(last(*line, between(1, 0)), bounds(-5, -3))

    def test_least_equal_to_most(self):
        line = [begins(0, 0), event(0, 0), event(1, 0), signal(0, 1, 4, 4)]
        self.assertEqual(last(*line, between(1, 0)), bounds(-4, -4))

    def test_several_signals(self):
        line = [begins(0, 0), event(0, 0), event(1, 0), signal(0, 1, 3, 15), signal(0, 1, 1, 9), signal(0, 1, 5, 12)]
        self.assertEqual(last(*line, between(0, 1)), bounds(5, 9))
        self.assertEqual(last(*line, strike(1), between(0, 1)), bounds(5, 12))

    def test_bounds_on_both_sides_of_0(self):
        line = [begins(0, 0), event(0, 0), event(1, 0), event(0, 1), signal(0, 1, 0, 3000000), signal(1, 2, 0, 3000000)]
        self.assertEqual(last(*line, between(0, 1)), bounds(0, 1000000))
        line = [begins(0, 0, 0), event(0, 0), event(1, 0), event(2, 0), signal(0, 1, 3, 9), signal(0, 2, 4, 6)]
        self.assertEqual(last(*line, between(1, 2)), bounds(-5, 3))

    def test_by_way_of_several_clocks(self):
        line = [
            begins(100, 200, 300), event(0, 10), event(0, 12), event(1, 5), event(1, 9), event(2, 0), event(2, 1),
            signal(1, 2, 100, 300), signal(3, 4, 50, 70)]
        self.assertEqual(
            last(*line, between(0, 5)),
            bounds(1999800 + 100 + 3999200 + 50 + 999700, 2000200 + 300 + 4000800 + 70 + 1000300))

    def test_over_eras_settings_and_signals(self):
        line = [
            begins(100, 0), event(0, 10), set_to(0, 12, 3), event(0, 5), event(1, 7), set_to(1, 8, 80), event(1, 81),
            signal(3, 4, 1000, 2000)]
        self.assertEqual(
            last(*line, between(0, 7)),
            bounds(1999800 + 1999800 + 1000 + 2000000, 2000200 + 2000200 + 2000 + 2000000))

    def test_a_signal_narrows_what_the_clock_tells(self):
        line = [begins(1000, 0), event(0, 0), event(0, 1), signal(0, 1, 999500, 1000200)]
        self.assertEqual(last(*line, between(0, 1)), bounds(999500, 1000200))
        line = line + [event(0, 2)]
        self.assertEqual(last(*line, between(0, 2)), bounds(999500 + 999000, 1000200 + 1001000))

    def test_two_clocks_with_the_one_that_goes_better_between(self):
        line = [begins(1000, 10), event(0, 0), event(0, 1), event(1, 0), event(1, 1),
                signal(0, 2, 0, 0), signal(3, 1, 0, 0)]
        self.assertEqual(last(*line, between(0, 1)), bounds(999990, 1000010))

    def test_a_later_event_narrows_nothing_unless_told(self):
        line = [begins(0, 0), event(0, 0), event(1, 0)]
        self.assertEqual(last(*line, between(0, 1), event(1, 5), between(0, 2)), bounds(None, None))

    def test_asking_changes_nothing(self):
        line = [begins(7, 0), event(0, 0), event(0, 9), between(0, 1), between(1, 0), between(0, 1)]
        given = ask(*line)
        self.assertEqual(given[3], given[5])


class BySlowWay(unittest.TestCase):
    """The same room gone through by the document's own words: bounds are met by some true times."""

    def check(self, seed):
        numbers = Numbers(seed)
        rates = [(0, 10, 100000, 999999)[numbers.below(4)] for k in range(numbers.below(3) + 1)]
        slow = Slow(rates)
        calls = [begins(*rates)]
        fill(numbers, slow, calls)
        known, held = slow.believed()
        self.assertEqual(last(*calls, believed()), listed(*known))
        count = len(slow.events)
        for i in range(count):
            given = ask(*calls, *[between(i, j) for j in range(count)])[len(calls):]
            for j in range(count):
                expected = bounds(slow.least(held, i, j), slow.greatest(held, i, j))
                self.assertEqual(given[j], expected, (seed, i, j))
        return len(known), len(slow.signals)

    def test_many_rooms(self):
        trusted = 0
        told = 0
        for seed in range(150):
            known, signals = self.check(seed)
            trusted += known
            told += signals
        # Rooms where all is believed, or nothing, would show little.
        self.assertGreater(trusted, 100)
        self.assertGreater(told - trusted, 100)


if __name__ == "__main__":
    unittest.main()
