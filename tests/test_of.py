import unittest

from tests.lines import ask, begins, believed, between, bounds, event, last, listed, of, set_to, signal


class Of(unittest.TestCase):
    def test_no_such_clock(self):
        self.assertEqual(last(of(1)), [-1])
        self.assertEqual(last(begins(0, 0), of(2)), [-1])
        self.assertEqual(last(begins(0, 0, 0, 0, 0, 0), of(6)), [-1])
        self.assertEqual(last(of(2000000000000)), [-1])

    def test_a_clock_without_events(self):
        self.assertEqual(last(of(0)), [0, 0])
        self.assertEqual(last(begins(0, 0), event(0, 5), of(1)), [0, 0])
        self.assertEqual(last(begins(0, 0, 0, 0, 0, 0), of(5)), [0, 0])

    def test_how_many_and_they_as_a_list(self):
        self.assertEqual(last(event(0, 5), of(0)), [1, 1, 0])
        self.assertEqual(last(begins(0, 0), event(1, 5), event(0, 5), event(1, 5), of(1)), [2, 2, 0, 2])

    def test_in_an_era_by_number_and_not_by_reading(self):
        self.assertEqual(last(event(0, 9), event(0, 2), event(0, 5), of(0)), listed(0, 1, 2))

    def test_several_eras(self):
        line = [begins(0, 0), event(0, 9), event(1, 4), set_to(0, 30, 2), event(0, 25), event(1, 3), event(0, 3),
                set_to(1, 40, 1), set_to(0, 26, 0), event(1, 2), event(0, 1)]
        self.assertEqual(last(*line, of(0)), listed(0, 2, 3, 4, 6, 9, 10, 12))
        self.assertEqual(last(*line, of(1)), listed(1, 5, 7, 8, 11))

    def test_24_events(self):
        self.assertEqual(last(*[set_to(0, 5, 5)] * 12, of(0)), listed(*range(24)))

    def test_refused_events_are_not_there(self):
        self.assertEqual(last(set_to(0, 9, 5), event(0, 4), set_to(0, 4, 0), event(1, 5), of(0)), listed(0, 1))

    def test_begins_leaves_none(self):
        self.assertEqual(last(event(0, 5), begins(0), of(0)), listed())
        self.assertEqual(last(event(0, 5), begins(), of(0)), listed(0))

    def test_nothing_is_changed(self):
        line = [begins(0, 0), event(0, 9), event(1, 4), signal(0, 1, 5, 9)]
        self.assertEqual(ask(*line, of(0), of(1), of(2), of(0), believed(), between(0, 1), event(0, 4), of(0))[4:],
                         [listed(0), listed(1), [-1], listed(0), listed(0), bounds(5, 9), [2], listed(0, 2)])


if __name__ == "__main__":
    unittest.main()
