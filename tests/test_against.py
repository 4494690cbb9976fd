import unittest

from tests.lines import (
    against, against_row, ask, begins, believed, between, event, last, listed, of, reason, row, set_to, signal, strike)

TWO = [begins(0, 0), event(0, 0), event(1, 0)]
FOUR = [begins(0, 0, 0, 0)] + [event(clock, 0) for clock in range(4)]
# One clock, one thing it counts apart: later by 900000 at least and 1100000 at most.
APART = [begins(100000), event(0, 3), event(0, 4)]
FAR = 2000000000000


class Against(unittest.TestCase):
    def test_no_such_signal(self):
        self.assertEqual(last(against(0)), [-2])
        self.assertEqual(last(*TWO, signal(0, 1, 0, 9), against(1)), [-2])
        self.assertEqual(last(*TWO, signal(0, 1, 0, 9), against(FAR)), [-2])

    def test_a_struck_one(self):
        told = [signal(0, 1, 10, 20), signal(0, 1, 30, 40)]
        self.assertEqual(last(*TWO, *told, strike(0), against(0)), [-4])
        self.assertEqual(last(*TWO, *told, strike(1), against(1)), [-4])

    def test_the_refusals_beside_one_another(self):
        told = [signal(0, 1, 10, 20), strike(0)]
        self.assertEqual(ask(*TWO, *told, against(1), against(0))[5:], [[-2], [-4]])

    def test_a_believed_one(self):
        self.assertEqual(last(*TWO, signal(0, 1, 0, 9), against(0)), [0])
        self.assertEqual(last(*TWO, signal(0, 1, 0, 9), signal(0, 1, 9, 20), against(1)), [0])
        self.assertEqual(last(*APART, signal(0, 1, 900000, 900000), against(0)), [0])
        self.assertEqual(last(*APART, signal(0, 1, 1100000, 1100000), against(0)), [0])

    def test_1_by_the_clock(self):
        self.assertEqual(last(*APART, signal(0, 1, 1100001, 2000000), against(0)), [1, 2, 0, 1])
        self.assertEqual(last(*APART, signal(1, 0, 0, 2000000), against(0)), [1, 2, 1, 0])

    def test_2_by_the_clock(self):
        self.assertEqual(last(*APART, signal(0, 1, 0, 899999), against(0)), [2, 2, 1, 0])

    def test_at_a_setting(self):
        told = [event(0, 7), set_to(0, 7, 1), event(0, 1)]
        self.assertEqual(last(*told, signal(1, 2, 1, 9), against(0)), against_row(1, 1, 2))
        self.assertEqual(last(*told, signal(0, 3, 1, 9), against(0)), against_row(1, 0, 1, 2, 3))
        self.assertEqual(last(*told, signal(3, 0, 1, 9), against(0)), against_row(1, 3, 0))
        self.assertEqual(last(*told, signal(3, 0, 0, 9), against(0)), [0])

    def test_over_eras(self):
        told = [begins(0), event(0, 5), set_to(0, 7, 1), event(0, 2)]
        self.assertEqual(last(*told, signal(0, 3, 0, 2999999), against(0)), against_row(2, 3, 2, 1, 0))
        self.assertEqual(last(*told, signal(0, 3, 3000000, 3000000), against(0)), [0])
        self.assertEqual(last(*told, signal(0, 3, 3000001, 9000000), against(0)), against_row(1, 0, 1, 2, 3))

    def test_by_a_signal_before_it(self):
        told = [signal(0, 1, 10, 20)]
        self.assertEqual(last(*TWO, *told, signal(0, 1, 21, 30), against(1)), against_row(1, 0, 1))
        self.assertEqual(last(*TWO, *told, signal(0, 1, 0, 9), against(1)), against_row(2, 1, 0))
        self.assertEqual(last(*TWO, *told, signal(1, 0, 0, 30), against(1)), against_row(1, 1, 0))
        self.assertEqual(last(*TWO, *told, against(0)), [0])

    def test_by_several_before_it(self):
        told = [signal(0, 2, 3, 4), signal(2, 3, 5, 7)]
        self.assertEqual(last(*FOUR, *told, signal(0, 3, 12, 20), against(2)), against_row(1, 0, 2, 3))
        self.assertEqual(last(*FOUR, *told, signal(0, 3, 0, 7), against(2)), against_row(2, 3, 2, 0))
        self.assertEqual(last(*FOUR, *told, signal(3, 0, 0, 99), against(2)), against_row(1, 3, 2, 0))

    def test_a_later_believed_one_counts_for_nothing(self):
        told = [signal(0, 2, 3, 4), signal(2, 3, 5, 7), signal(0, 3, 12, 20)]
        # Later ones tell a shorter row and a nearer bound.
        later = [signal(0, 3, 8, 11), signal(0, 1, 1, 2), signal(1, 3, 1, 8)]
        line = FOUR + told + later
        self.assertEqual(ask(*line, believed(), reason(0, 3), against(2))[len(line):],
                         [listed(0, 1, 3, 4, 5), row(0, 1, 3), against_row(1, 0, 2, 3)])

    def test_each_by_those_before_it(self):
        line = TWO + [signal(0, 1, 10, 20), signal(0, 1, 15, 30), signal(0, 1, 0, 12)]
        self.assertEqual(ask(*line, against(0), against(1), against(2))[6:], [[0], [0], against_row(2, 1, 0)])

    def test_a_struck_one_before_it_counts_for_nothing(self):
        told = [signal(0, 1, 10, 20), signal(0, 1, 30, 40)]
        self.assertEqual(ask(*TWO, *told, against(1), strike(0), against(1))[5:], [against_row(1, 0, 1), [0], [0]])
        told = [signal(0, 3, 5, 9), signal(0, 2, 3, 4), signal(2, 3, 5, 7), signal(0, 3, 12, 20)]
        self.assertEqual(ask(*FOUR, *told, against(3), strike(0), against(3))[9:],
                         [against_row(1, 0, 3), [0], against_row(1, 0, 2, 3)])

    def test_an_unbelieved_one_before_it_counts_for_nothing(self):
        told = [signal(0, 1, 10, 20), signal(0, 1, 30, 40), signal(0, 1, 15, 16), signal(0, 1, 35, 36)]
        self.assertEqual(ask(*TWO, *told, believed(), against(1), against(2), against(3))[7:],
                         [listed(0, 2), against_row(1, 0, 1), [0], against_row(1, 0, 1)])

    def test_the_fewest_events_and_the_first_of_several(self):
        told = [signal(0, 2, 0, 5), signal(2, 3, 0, 5), signal(0, 1, 0, 5), signal(1, 3, 0, 5), signal(0, 3, 11, 20)]
        self.assertEqual(last(*FOUR, *told, against(4)), against_row(1, 0, 1, 3))
        told = [signal(0, 2, 5, 9), signal(2, 3, 5, 9), signal(0, 1, 5, 9), signal(1, 3, 5, 9), signal(0, 3, 0, 9)]
        self.assertEqual(last(*FOUR, *told, against(4)), against_row(2, 3, 1, 0))

    def test_events_told_later_count(self):
        # Clocks hold for all events, whenever they are told.
        line = TWO + [signal(0, 1, 10, 20), event(0, 1), signal(2, 1, 0, 9)]
        self.assertEqual(last(*line, against(1)), against_row(1, 2, 0, 1))

    def test_nothing_is_changed(self):
        line = TWO + [signal(0, 1, 10, 20), signal(0, 1, 30, 40), signal(0, 1, 12, 13), strike(2)]
        asked = [believed(), between(0, 1), of(0), reason(0, 1), event(0, 4), strike(1), believed()]
        plain = ask(*line, *asked)[len(line):]
        told = [against(0), against(1), against(2), against(3), against(1)]
        self.assertEqual(ask(*line, *told, *asked)[len(line) + 5:], plain)


if __name__ == "__main__":
    unittest.main()
