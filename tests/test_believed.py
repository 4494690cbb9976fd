import unittest

from tests.lines import ask, begins, believed, between, bounds, event, last, listed, set_to, signal, strike

TWO = [begins(0, 0), event(0, 0), event(1, 0)]
# One clock, one thing it counts apart: later by 900000 at least and 1100000 at most.
APART = [begins(100000), event(0, 3), event(0, 4)]


class Believed(unittest.TestCase):
    def test_none(self):
        self.assertEqual(last(believed()), [0, 0])
        self.assertEqual(last(*TWO, believed()), [0, 0])

    def test_how_many_and_they_as_a_list(self):
        self.assertEqual(last(*TWO, signal(0, 1, 0, 9), believed()), [1, 1, 0])
        self.assertEqual(last(*TWO, signal(0, 1, 0, 9), signal(0, 1, 5, 20), believed()), [2, 2, 0, 1])

    def test_against_the_clocks(self):
        self.assertEqual(last(*APART, signal(0, 1, 0, 899999), believed()), listed())
        self.assertEqual(last(*APART, signal(0, 1, 1100001, 2000000), believed()), listed())
        self.assertEqual(last(*APART, signal(1, 0, 0, 2000000), believed()), listed())

    def test_touching_the_clocks_bounds(self):
        self.assertEqual(last(*APART, signal(0, 1, 0, 900000), believed()), listed(0))
        self.assertEqual(last(*APART, signal(0, 1, 1100000, 2000000), believed()), listed(0))
        self.assertEqual(
            last(*APART, signal(0, 1, 0, 900000), between(0, 1)), bounds(900000, 900000))

    def test_backwards_at_one_instant(self):
        self.assertEqual(
            last(event(0, 3), event(0, 3), signal(0, 1, 0, 5), signal(1, 0, 0, 5), signal(1, 0, 1, 5), believed()),
            listed(0, 1))

    def test_against_those_before_it(self):
        told = [signal(0, 1, 10, 20)]
        self.assertEqual(last(*TWO, *told, signal(0, 1, 0, 9), believed()), listed(0))
        self.assertEqual(last(*TWO, *told, signal(0, 1, 21, 30), believed()), listed(0))
        self.assertEqual(last(*TWO, *told, signal(1, 0, 0, 30), believed()), listed(0))

    def test_touching_those_before_it(self):
        told = [signal(0, 1, 10, 20)]
        self.assertEqual(last(*TWO, *told, signal(0, 1, 0, 10), believed()), listed(0, 1))
        self.assertEqual(last(*TWO, *told, signal(0, 1, 20, 30), believed()), listed(0, 1))
        self.assertEqual(
            last(*TWO, signal(0, 1, 0, 20), signal(1, 0, 0, 30), between(0, 1)), bounds(0, 0))

    def test_against_several_before_it_together(self):
        told = [signal(0, 1, 0, 10), signal(0, 1, 5, 20)]
        self.assertEqual(last(*TWO, *told, signal(0, 1, 11, 15), believed()), listed(0, 1))
        self.assertEqual(last(*TWO, *told, signal(0, 1, 0, 4), believed()), listed(0, 1))

    def test_by_way_of_a_third_event(self):
        three = [begins(0, 0, 0), event(0, 0), event(1, 0), event(2, 0)]
        told = [signal(0, 1, 3, 4), signal(1, 2, 5, 7)]
        self.assertEqual(last(*three, *told, signal(0, 2, 12, 20), believed()), listed(0, 1))
        self.assertEqual(last(*three, *told, signal(0, 2, 11, 20), believed()), listed(0, 1, 2))
        self.assertEqual(last(*three, *told, signal(0, 2, 0, 7), believed()), listed(0, 1))
        self.assertEqual(last(*three, *told, signal(0, 2, 0, 8), believed()), listed(0, 1, 2))
        self.assertEqual(last(*three, *told, signal(2, 0, 0, 99), believed()), listed(0, 1))

    def test_an_unbelieved_one_holds_nothing(self):
        told = [signal(0, 1, 10, 20), signal(0, 1, 30, 40), signal(0, 1, 0, 15)]
        self.assertEqual(ask(*TWO, *told, believed(), between(0, 1))[6:], [listed(0, 2), bounds(10, 15)])

    def test_once_an_earlier_one_is_struck(self):
        told = [signal(0, 1, 10, 20), signal(0, 1, 30, 40)]
        self.assertEqual(
            ask(*TWO, *told, believed(), strike(0), believed(), between(0, 1))[5:],
            [listed(0), [0], listed(1), bounds(30, 40)])

    def test_one_that_comes_to_be_believed_ousts_a_later_one(self):
        told = [signal(0, 1, 10, 20), signal(0, 1, 30, 40), signal(0, 1, 12, 13)]
        self.assertEqual(
            ask(*TWO, *told, believed(), strike(0), believed(), strike(1), believed())[6:],
            [listed(0, 2), [0], listed(1), [0], listed(2)])

    def test_a_struck_one_holds_nothing(self):
        self.assertEqual(
            ask(*TWO, signal(0, 1, 10, 20), strike(0), believed(), between(0, 1))[4:],
            [[0], listed(), bounds(None, None)])

    def test_a_later_event_may_unmake_it(self):
        # The order of what is told does not bind: clocks come ahead of signals.
        told = [begins(0, 0), event(0, 0), event(1, 0), event(0, 1), signal(0, 1, 0, 5), signal(1, 2, 0, 5)]
        self.assertEqual(last(*told, believed()), listed(0))

    def test_over_eras(self):
        told = [begins(0), event(0, 5), set_to(0, 7, 1), event(0, 2)]
        self.assertEqual(last(*told, signal(0, 3, 0, 2999999), believed()), listed())
        self.assertEqual(last(*told, signal(0, 3, 3000000, 3000000), believed()), listed(0))
        self.assertEqual(last(*told, signal(0, 3, 3000001, 9000000), believed()), listed())

    def test_at_a_setting(self):
        told = [set_to(0, 7, 1)]
        self.assertEqual(last(*told, signal(0, 1, 1, 9), signal(1, 0, 1, 9), signal(1, 0, 0, 9), believed()), listed(2))

    def test_asking_changes_nothing(self):
        told = [signal(0, 1, 10, 20), signal(0, 1, 30, 40)]
        self.assertEqual(
            ask(*TWO, *told, believed(), believed(), strike(0), believed(), believed())[5:],
            [listed(0), listed(0), [0], listed(1), listed(1)])

    def test_thirty(self):
        self.assertEqual(last(*TWO, *[signal(0, 1, k, 99) for k in range(30)], believed()), listed(*range(30)))


if __name__ == "__main__":
    unittest.main()
