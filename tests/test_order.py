import unittest

from tests.lines import (
    against, ask, begins, believed, between, bounds, event, last, listed, of, once, order, set_to, signal, strike)

TWO = [begins(0, 0), event(0, 0), event(1, 0)]
FAR = 2000000000000


class Order(unittest.TestCase):
    def both(self, calls, i, j):
        """The answers of i with j and of j with i."""
        return [given[0] for given in ask(*calls, order(i, j), order(j, i))[len(calls):]]

    def test_one_number_alone(self):
        self.assertEqual(last(*TWO, order(0, 1)), [0])
        self.assertEqual(last(*TWO, signal(0, 1, 5, 9), order(0, 1)), [1])

    def test_surely_before_and_surely_behind(self):
        self.assertEqual(self.both([event(0, 3), event(0, 4)], 0, 1), [1, 2])
        self.assertEqual(self.both([event(0, 4), event(0, 3)], 0, 1), [2, 1])
        self.assertEqual(self.both(TWO + [signal(0, 1, 5, 9)], 0, 1), [1, 2])
        self.assertEqual(self.both(TWO + [signal(1, 0, 5, 9)], 0, 1), [2, 1])

    def test_by_the_least_that_counts(self):
        self.assertEqual(self.both(TWO + [signal(0, 1, 1, 9)], 0, 1), [1, 2])
        self.assertEqual(self.both([begins(999999), event(0, 0), event(0, 1)], 0, 1), [1, 2])

    def test_a_least_of_just_0(self):
        self.assertEqual(self.both(TWO + [signal(0, 1, 0, 1)], 0, 1), [0, 0])
        self.assertEqual(self.both(TWO + [signal(0, 1, 0, 1000000000000)], 0, 1), [0, 0])

    def test_a_least_below_0_and_a_greatest_above(self):
        three = [begins(0, 0, 0), event(0, 0), event(1, 0), event(2, 0)]
        line = three + [signal(0, 1, 3, 9), signal(0, 2, 4, 6)]
        self.assertEqual(last(*line, between(1, 2)), bounds(-5, 3))
        self.assertEqual(self.both(line, 1, 2), [0, 0])

    def test_no_bounds_at_all(self):
        self.assertEqual(self.both(TWO, 0, 1), [0, 0])

    def test_an_event_with_itself(self):
        self.assertEqual(last(*TWO, order(1, 1)), [3])
        self.assertEqual(last(begins(999999), event(0, 7), order(0, 0)), [3])

    def test_surely_at_once(self):
        self.assertEqual(self.both([begins(9), event(0, 5), event(0, 5)], 0, 1), [3, 3])
        self.assertEqual(self.both([begins(9), set_to(0, 5, 1)], 0, 1), [3, 3])
        self.assertEqual(self.both(TWO + [signal(0, 1, 0, 0)], 0, 1), [3, 3])
        self.assertEqual(self.both(TWO + [signal(0, 1, 0, 5), signal(1, 0, 0, 5)], 0, 1), [3, 3])

    def test_over_eras(self):
        line = [begins(100), event(0, 50), set_to(0, 60, 1), event(0, 2)]
        self.assertEqual(self.both(line, 0, 3), [1, 2])
        line = [begins(100), event(0, 60), set_to(0, 60, 1), event(0, 1)]
        self.assertEqual(self.both(line, 0, 3), [3, 3])

    def test_by_way_of_others(self):
        line = [begins(0, 0), event(0, 0), event(1, 5), event(1, 6), event(0, 1), signal(0, 1, 0, 9),
                signal(2, 3, 0, 9)]
        self.assertEqual(self.both(line, 0, 2), [1, 2])
        self.assertEqual(self.both(line, 1, 3), [1, 2])

    def test_by_believed_signals_alone(self):
        line = TWO + [signal(0, 1, 5, 9), signal(1, 0, 5, 9)]
        self.assertEqual(self.both(line, 0, 1), [1, 2])
        self.assertEqual(self.both(line + [strike(0)], 0, 1), [2, 1])
        self.assertEqual(self.both(line + [strike(0), strike(1)], 0, 1), [0, 0])

    def test_an_event_is_not_there(self):
        for wrong in (order(2, 0), order(0, 2), order(2, 2), order(0, FAR), order(FAR, 0)):
            self.assertEqual(last(*TWO, wrong), [-1])
        self.assertEqual(last(order(0, 0)), [-1])

    def test_nothing_is_changed(self):
        line = TWO + [signal(0, 1, 5, 9)]
        asked = [believed(), between(0, 1), of(0), against(0), event(0, 4)]
        plain = ask(*line, *asked)[len(line):]
        self.assertEqual(ask(*line, order(0, 1), order(1, 0), order(0, 2), *asked)[len(line) + 3:], plain)


class Once(unittest.TestCase):
    def test_itself_alone(self):
        self.assertEqual(last(event(0, 3), once(0)), [1, 1, 0])
        self.assertEqual(last(*TWO, once(1)), [1, 1, 1])

    def test_the_two_of_a_setting(self):
        line = [begins(7, 7), event(1, 0), set_to(0, 9, 4), event(0, 5)]
        self.assertEqual(ask(*line, once(1), once(2), once(3))[4:], [listed(1, 2), listed(1, 2), listed(3)])

    def test_two_settings_at_one_instant(self):
        line = [begins(7), event(0, 9), set_to(0, 9, 4), set_to(0, 4, 30), event(0, 30), event(0, 31)]
        for number in range(6):
            self.assertEqual(last(*line, once(number)), listed(0, 1, 2, 3, 4, 5))
        self.assertEqual(last(*line, once(6)), listed(6))

    def test_one_reading_in_one_era(self):
        line = [begins(7), event(0, 9), event(0, 8), event(0, 9), event(0, 9)]
        self.assertEqual(ask(*line, once(0), once(1), once(3))[5:], [listed(0, 2, 3), listed(1), listed(0, 2, 3)])

    def test_one_reading_in_different_eras_or_of_different_clocks(self):
        line = [begins(0, 0), event(0, 9), event(1, 9), set_to(0, 10, 9)]
        self.assertEqual(last(*line, once(0)), listed(0))
        self.assertEqual(last(*line, once(3)), listed(2, 3))

    def test_joined_by_signals_that_leave_no_room(self):
        three = [begins(0, 0, 0), event(0, 0), event(1, 0), event(2, 0)]
        self.assertEqual(last(*three, signal(0, 2, 0, 0), once(2)), listed(0, 2))
        self.assertEqual(last(*three, signal(0, 2, 0, 5), signal(2, 0, 0, 5), once(0)), listed(0, 2))
        line = three + [signal(2, 1, 4, 4), signal(2, 0, 4, 4)]
        self.assertEqual(ask(*line, once(0), once(1), once(2))[6:], [listed(0, 1), listed(0, 1), listed(2)])

    def test_room_on_one_side_is_not_at_once(self):
        self.assertEqual(last(*TWO, signal(0, 1, 0, 1), once(0)), listed(0))
        self.assertEqual(last(*TWO, signal(0, 1, 0, 1), once(1)), listed(1))
        self.assertEqual(last(*TWO, signal(0, 1, 5, 5), once(0)), listed(0))

    def test_by_believed_signals_alone(self):
        line = TWO + [signal(0, 1, 5, 9), signal(0, 1, 0, 0)]
        self.assertEqual(ask(*line, once(0), strike(0), once(0), strike(1), once(0))[5:],
                         [listed(0), [0], listed(0, 1), [0], listed(0)])

    def test_rising_with_24_events(self):
        line = [begins(5, 5)] + [event(0, 3), event(1, 3)] * 12
        self.assertEqual(last(*line, once(11)), listed(*range(1, 24, 2)))
        self.assertEqual(last(*line, signal(23, 0, 0, 0), once(11)), listed(*range(24)))

    def test_the_event_is_not_there(self):
        self.assertEqual(last(once(0)), [-1])
        self.assertEqual(last(*TWO, once(2)), [-1])
        self.assertEqual(last(*TWO, once(FAR)), [-1])

    def test_nothing_is_changed(self):
        line = TWO + [signal(0, 1, 0, 0)]
        asked = [believed(), between(0, 1), of(0), against(0), event(0, 4)]
        plain = ask(*line, *asked)[len(line):]
        self.assertEqual(ask(*line, once(0), once(1), once(2), *asked)[len(line) + 3:], plain)


if __name__ == "__main__":
    unittest.main()
