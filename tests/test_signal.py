import unittest

from tests.lines import ask, begins, believed, between, bounds, event, last, listed, signal, strike

TWO = [begins(0, 0), event(0, 0), event(1, 0)]


class Signal(unittest.TestCase):
    def test_numbers_rise(self):
        self.assertEqual(
            ask(*TWO, signal(0, 1, 0, 9), signal(1, 0, 0, 9), signal(0, 1, 50, 60))[3:], [[0], [1], [2]])

    def test_an_event_is_not_there(self):
        self.assertEqual(last(*TWO, signal(2, 0, 0, 9)), [-1])
        self.assertEqual(last(*TWO, signal(0, 2, 0, 9)), [-1])
        self.assertEqual(last(signal(0, 1, 0, 9)), [-1])
        self.assertEqual(last(*TWO, signal(0, 2000000000000, 0, 9)), [-1])

    def test_both_events_are_the_same(self):
        self.assertEqual(last(*TWO, signal(1, 1, 0, 9)), [-1])
        self.assertEqual(last(*TWO, signal(0, 0, 0, 0)), [-1])

    def test_least_and_most(self):
        self.assertEqual(last(*TWO, signal(0, 1, 9, 9)), [0])
        self.assertEqual(last(*TWO, signal(0, 1, 0, 0)), [0])
        self.assertEqual(last(*TWO, signal(0, 1, 10, 9)), [-1])

    def test_most_at_its_edge(self):
        edge = 1000000000000
        self.assertEqual(last(*TWO, signal(0, 1, 0, edge)), [0])
        self.assertEqual(last(*TWO, signal(0, 1, edge, edge)), [0])
        self.assertEqual(last(*TWO, signal(0, 1, 0, edge + 1)), [-1])
        self.assertEqual(last(*TWO, signal(0, 1, edge + 1, edge + 1)), [-1])
        self.assertEqual(last(*TWO, signal(0, 1, edge + 1, edge)), [-1])

    def test_one_clock_may_signal_to_itself(self):
        self.assertEqual(last(event(0, 1), event(0, 2), signal(0, 1, 0, 9)), [0])

    def test_30_signals(self):
        given = ask(*TWO, *[signal(0, 1, 0, 9)] * 31)
        self.assertEqual(given[3:], [[k] for k in range(30)] + [[-5]])

    def test_struck_and_unbelieved_signals_count_too(self):
        given = ask(*TWO, signal(0, 1, 5, 9), strike(0), signal(0, 1, 0, 1), *[signal(1, 0, 5, 9)] * 28,
                    signal(0, 1, 0, 9))
        self.assertEqual(given[-2:], [[29], [-5]])

    def test_the_order_of_refusals(self):
        full = TWO + [signal(0, 1, 0, 9)] * 30
        for wrong in (signal(2, 1, 0, 9), signal(0, 2, 0, 9), signal(0, 0, 0, 9), signal(0, 1, 9, 8),
                      signal(0, 1, 0, 1000000000001)):
            self.assertEqual(last(*full, wrong), [-1])

    def test_after_a_refusal_all_is_as_it_was(self):
        wrong = [signal(2, 1, 0, 1), signal(0, 0, 0, 1), signal(0, 1, 2, 1), signal(0, 1, 0, 1000000000001)]
        given = ask(*TWO, *wrong, believed(), strike(0), between(0, 1), signal(0, 1, 3, 9), between(0, 1))
        self.assertEqual(given[7:], [listed(), [-2], bounds(None, None), [0], bounds(3, 9)])

    def test_after_a_refusal_at_30_all_is_as_it_was(self):
        given = ask(*TWO, *[signal(0, 1, 3, 9)] * 30, signal(0, 1, 4, 5), strike(30), between(0, 1), believed())
        self.assertEqual(given[33:], [[-5], [-2], bounds(3, 9), listed(*range(30))])


class Strike(unittest.TestCase):
    def test_struck_once(self):
        self.assertEqual(ask(*TWO, signal(0, 1, 0, 9), strike(0), strike(0))[4:], [[0], [-4]])

    def test_no_such_signal(self):
        self.assertEqual(last(strike(0)), [-2])
        self.assertEqual(last(*TWO, signal(0, 1, 0, 9), strike(1)), [-2])
        self.assertEqual(last(*TWO, signal(0, 1, 0, 9), strike(2000000000000)), [-2])

    def test_an_unbelieved_one_may_be_struck(self):
        self.assertEqual(
            ask(*TWO, signal(0, 1, 0, 9), signal(0, 1, 10, 11), strike(1), believed())[5:], [[0], listed(0)])

    def test_only_that_one_is_struck(self):
        told = [signal(0, 1, 0, 9), signal(0, 1, 1, 9), signal(0, 1, 2, 9)]
        self.assertEqual(ask(*TWO, *told, strike(1), believed(), strike(0), believed())[6:],
                         [[0], listed(0, 2), [0], listed(2)])

    def test_numbers_stay(self):
        self.assertEqual(
            ask(*TWO, signal(0, 1, 0, 9), strike(0), signal(0, 1, 0, 9), strike(0), strike(1))[5:],
            [[1], [-4], [0]])

    def test_after_a_refusal_all_is_as_it_was(self):
        told = [signal(0, 1, 0, 9), signal(0, 1, 1, 8), strike(0)]
        self.assertEqual(
            ask(*TWO, *told, strike(0), strike(2), believed(), between(0, 1), strike(1))[6:],
            [[-4], [-2], listed(1), bounds(1, 8), [0]])


if __name__ == "__main__":
    unittest.main()
