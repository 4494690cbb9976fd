import unittest

from tests.lines import ask, begins, between, bounds, event, last, set_to


class Event(unittest.TestCase):
    def test_numbers_rise_over_all_clocks(self):
        self.assertEqual(
            ask(begins(0, 0), event(0, 5), event(1, 5), event(0, 5), event(1, 9))[1:], [[0], [1], [2], [3]])

    def test_no_such_clock(self):
        self.assertEqual(last(event(1, 0)), [-1])
        self.assertEqual(last(begins(0, 0), event(2, 0)), [-1])
        self.assertEqual(last(event(2000000000000, 0)), [-1])

    def test_readings_at_their_edges(self):
        self.assertEqual(ask(event(0, 0), event(0, 1000000), event(0, 1000001)), [[0], [1], [-1]])
        self.assertEqual(last(event(0, 2000000000000)), [-1])

    def test_readings_may_fall_within_an_era(self):
        self.assertEqual(
            ask(begins(100), event(0, 9), event(0, 4), between(0, 1))[1:], [[0], [1], bounds(-5000500, -4999500)])

    def test_at_what_the_era_began_with_and_one_below(self):
        self.assertEqual(ask(set_to(0, 9, 5), event(0, 5), event(0, 4)), [[0], [2], [-6]])
        self.assertEqual(ask(set_to(0, 9, 15), event(0, 15), event(0, 14)), [[0], [2], [-6]])

    def test_only_the_era_now_counts(self):
        self.assertEqual(
            ask(set_to(0, 9, 50), set_to(0, 60, 3), event(0, 3), event(0, 2)), [[0], [2], [4], [-6]])

    def test_other_clocks_are_not_set(self):
        self.assertEqual(ask(begins(0, 0), set_to(0, 9, 5), event(1, 0), event(0, 0))[2:], [[2], [-6]])

    def test_below_an_event_of_the_era_is_no_refusal(self):
        self.assertEqual(ask(set_to(0, 9, 5), event(0, 8), event(0, 6)), [[0], [2], [3]])

    def test_24_events(self):
        given = ask(*[event(0, k) for k in range(25)])
        self.assertEqual(given, [[k] for k in range(24)] + [[-5]])

    def test_settings_count_twice(self):
        given = ask(*[set_to(0, 1, 0) for k in range(11)], event(0, 0), event(0, 0), event(0, 0))
        self.assertEqual(given[11:], [[22], [23], [-5]])

    def test_the_order_of_refusals(self):
        full = [set_to(0, 9, 5)] + [event(0, 5)] * 22
        self.assertEqual(last(*full, event(0, 5)), [-5])
        self.assertEqual(last(*full, event(0, 4)), [-6])
        self.assertEqual(last(*full, event(1, 4)), [-1])
        self.assertEqual(last(*full, event(0, 1000001)), [-1])

    def test_after_a_refusal_all_is_as_it_was(self):
        given = ask(set_to(0, 9, 5), event(0, 4), event(1, 9), event(0, 1000001), between(1, 2), event(0, 6),
                    between(1, 2))
        self.assertEqual(given[1:], [[-6], [-1], [-1], [-1], [2], bounds(1000000, 1000000)])
        full = [event(0, k) for k in range(24)]
        self.assertEqual(ask(*full, event(0, 0), between(0, 24), between(0, 23))[24:],
                         [[-5], [-1], bounds(23000000, 23000000)])


class Setting(unittest.TestCase):
    def test_the_first_of_two_numbers(self):
        self.assertEqual(ask(event(0, 1), set_to(0, 3, 2), set_to(0, 4, 9), event(0, 9)), [[0], [1], [3], [5]])

    def test_no_such_clock(self):
        self.assertEqual(last(set_to(1, 0, 0)), [-1])
        self.assertEqual(last(begins(0, 0), set_to(2, 0, 0)), [-1])

    def test_readings_at_their_edges(self):
        self.assertEqual(last(set_to(0, 1000000, 0)), [0])
        self.assertEqual(last(set_to(0, 0, 1000000)), [0])
        self.assertEqual(last(set_to(0, 0, 0)), [0])
        self.assertEqual(last(set_to(0, 1000001, 0)), [-1])
        self.assertEqual(last(set_to(0, 0, 1000001)), [-1])

    def test_at_the_greatest_reading_and_one_below(self):
        told = [event(0, 4), event(0, 7), event(0, 5)]
        self.assertEqual(last(*told, set_to(0, 7, 0)), [3])
        self.assertEqual(last(*told, set_to(0, 6, 0)), [-6])

    def test_at_what_the_era_began_with_and_one_below(self):
        self.assertEqual(last(set_to(0, 9, 20), set_to(0, 20, 0)), [2])
        self.assertEqual(last(set_to(0, 9, 20), set_to(0, 19, 0)), [-6])

    def test_readings_of_an_older_era_do_not_count(self):
        self.assertEqual(last(event(0, 50), set_to(0, 60, 5), set_to(0, 5, 7)), [3])

    def test_readings_of_another_clock_do_not_count(self):
        self.assertEqual(last(begins(0, 0), event(1, 50), set_to(0, 4, 5)), [1])
        self.assertEqual(last(begins(0, 0), set_to(1, 50, 60), set_to(0, 4, 5)), [2])

    def test_what_it_is_set_to_may_be_anything(self):
        self.assertEqual(ask(event(0, 50), set_to(0, 60, 5), set_to(0, 70, 500)), [[0], [1], [3]])

    def test_at_22_and_at_23_events(self):
        told = [event(0, 0)] * 22
        self.assertEqual(last(*told, set_to(0, 0, 0)), [22])
        self.assertEqual(last(*told, event(0, 0), set_to(0, 0, 0)), [-5])
        self.assertEqual(last(*told, event(0, 0), event(0, 0), set_to(0, 0, 0)), [-5])

    def test_the_order_of_refusals(self):
        full = [event(0, 5)] * 23
        self.assertEqual(last(*full, set_to(0, 5, 0)), [-5])
        self.assertEqual(last(*full, set_to(0, 4, 0)), [-6])
        self.assertEqual(last(*full, set_to(1, 4, 0)), [-1])
        self.assertEqual(last(*full, set_to(0, 4, 1000001)), [-1])
        self.assertEqual(last(*full, set_to(0, 1000001, 0)), [-1])

    def test_after_a_refusal_all_is_as_it_was(self):
        refused = [set_to(0, 4, 9), set_to(1, 8, 9), set_to(0, 8, 1000001), set_to(0, 1000001, 8)]
        given = ask(event(0, 5), *refused, between(0, 1), event(0, 0), set_to(0, 5, 5), between(1, 2))
        self.assertEqual(given[1:], [[-6], [-1], [-1], [-1], [-1], [1], [2], bounds(5000000, 5000000)])

    def test_after_a_refusal_at_23_events_all_is_as_it_was(self):
        told = [event(0, 3)] * 23
        given = ask(*told, set_to(0, 8, 9), event(0, 2), between(22, 23))
        self.assertEqual(given[23:], [[-5], [23], bounds(-1000000, -1000000)])


if __name__ == "__main__":
    unittest.main()
