import unittest

from tests.lines import ask, begins, believed, between, bounds, event, last, listed, set_to, signal, strike


class Begins(unittest.TestCase):
    def test_a_new_room_has_one_clock_of_rate_0(self):
        self.assertEqual(
            ask(event(0, 3), event(0, 5), event(1, 0), between(0, 1)),
            [[0], [1], [-1], bounds(2000000, 2000000)])

    def test_a_new_room_has_no_events_and_no_signals(self):
        self.assertEqual(ask(believed(), between(0, 0), strike(0)), [listed(), [-1], [-2]])

    def test_one_clock(self):
        self.assertEqual(ask(begins(7), event(0, 0), event(1, 0)), [[0], [0], [-1]])

    def test_six_clocks(self):
        self.assertEqual(ask(begins(1, 2, 3, 4, 5, 6), event(5, 0), event(6, 0)), [[0], [0], [-1]])

    def test_no_clock_and_seven_are_refused(self):
        self.assertEqual(last(begins()), [-1])
        self.assertEqual(last(begins(0, 0, 0, 0, 0, 0, 0)), [-1])
        self.assertEqual(last(begins(*[0] * 60)), [-1])

    def test_rates_at_their_edges(self):
        self.assertEqual(last(begins(0)), [0])
        self.assertEqual(last(begins(999999)), [0])
        self.assertEqual(last(begins(1000000)), [-1])
        self.assertEqual(last(begins(2000000000000)), [-1])

    def test_one_rate_too_great_at_any_place(self):
        self.assertEqual(last(begins(1000000, 0, 0)), [-1])
        self.assertEqual(last(begins(0, 1000000, 0)), [-1])
        self.assertEqual(last(begins(0, 0, 1000000)), [-1])

    def test_each_clock_has_its_own_rate(self):
        rates = (0, 10, 999999)
        wanted = [bounds(1000000, 1000000), bounds(999990, 1000010), bounds(1, 1999999)]
        for clock in range(3):
            self.assertEqual(
                last(begins(*rates), event(clock, 4), event(clock, 5), between(0, 1)), wanted[clock])

    def test_in_the_midst_of_a_line_all_is_gone(self):
        given = ask(
            begins(0, 0), event(0, 1), set_to(0, 8, 5), event(1, 2), signal(0, 3, 0, 9),
            begins(100), believed(), between(0, 0), strike(0), event(1, 0),
            event(0, 0), event(0, 2), between(0, 1))
        self.assertEqual(given[5:], [
            [0], listed(), [-1], [-2], [-1], [0], [1], bounds(1999800, 2000200)])

    def test_in_the_midst_eras_begin_anew(self):
        given = ask(begins(0), set_to(0, 8, 5), begins(0), event(0, 4), set_to(0, 4, 2), between(0, 2))
        self.assertEqual(given[2:], [[0], [0], [1], bounds(0, 0)])

    def test_numbers_begin_anew(self):
        given = ask(
            begins(0), event(0, 1), event(0, 2), signal(0, 1, 0, 1),
            begins(0), event(0, 1), event(0, 2), signal(0, 1, 0, 1000000), strike(0), strike(0))
        self.assertEqual(given[4:], [[0], [0], [1], [0], [0], [-4]])

    def test_twice_with_the_same_rates(self):
        self.assertEqual(ask(begins(3), event(0, 1), begins(3), event(0, 1))[2:], [[0], [0]])

    def test_after_a_refusal_all_is_as_it_was(self):
        for refused in (begins(), begins(0, 0, 0, 0, 0, 0, 0), begins(0, 1000000)):
            given = ask(
                begins(0, 20), event(1, 1), set_to(1, 4, 2), signal(0, 2, 0, 5000000), refused,
                between(0, 1), believed(), event(1, 1), event(1, 2), event(2, 5))
            self.assertEqual(given[4:], [
                [-1], bounds(2999940, 3000060), listed(0), [-6], [3], [-1]])


if __name__ == "__main__":
    unittest.main()
