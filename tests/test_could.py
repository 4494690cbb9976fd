import unittest

from tests.lines import (
    against, ask, begins, believed, between, could, event, last, listed, of, once, set_to, signal, strike)

FAR = 2000000000000
# Clock 0 has the eras 0 (readings to 20), 1 (from 5 to 9) and 2 (from 50 on); event 0 is of clock 1.
ERAS = [begins(0, 0), event(1, 100), event(0, 10), set_to(0, 20, 5), set_to(0, 9, 50), event(0, 60)]


class Could(unittest.TestCase):
    def shown(self, calls, number, clock, era, readings):
        """Those of the readings that the clock could have shown then."""
        return [reading for reading in readings if last(*calls, could(number, clock, era, reading)) == [1]]

    def test_one_number_alone(self):
        self.assertEqual(last(event(0, 5), could(0, 0, 0, 5)), [1])
        self.assertEqual(last(event(0, 5), could(0, 0, 0, 6)), [0])

    def test_the_event_is_not_there(self):
        self.assertEqual(last(could(0, 0, 0, 0)), [-1])
        self.assertEqual(last(event(0, 5), could(1, 0, 0, 5)), [-1])
        self.assertEqual(last(event(0, 5), could(FAR, 0, 0, 5)), [-1])

    def test_the_clock_is_not_there(self):
        self.assertEqual(last(event(0, 5), could(0, 1, 0, 5)), [-1])
        self.assertEqual(last(event(0, 5), could(0, FAR, 0, 5)), [-1])

    def test_the_era_now_and_one_above_it(self):
        self.assertEqual(ask(event(0, 5), could(0, 0, 0, 5), could(0, 0, 1, 5))[1:], [[1], [-1]])
        line = [set_to(0, 9, 5)]
        self.assertEqual(ask(*line, could(1, 0, 1, 5), could(1, 0, 2, 5), could(1, 0, FAR, 5))[1:], [[1], [-1], [-1]])

    def test_each_clock_has_its_own_era_now(self):
        line = [begins(0, 0), set_to(1, 9, 5)]
        self.assertEqual(ask(*line, could(0, 0, 0, 3), could(0, 0, 1, 3), could(0, 1, 1, 5), could(0, 1, 2, 5))[2:],
                         [[1], [-1], [1], [-1]])

    def test_readings_1000000_and_1000001(self):
        line = [begins(0, 0), event(0, 5)]
        self.assertEqual(ask(*line, could(0, 1, 0, 1000000), could(0, 1, 0, 1000001), could(0, 1, 0, FAR))[2:],
                         [[1], [-1], [-1]])
        self.assertEqual(ask(*line, could(0, 0, 0, 1000000), could(0, 0, 0, 1000001))[2:], [[0], [-1]])

    def test_several_refusals_at_once(self):
        line = [event(0, 5)]
        for wrong in (could(1, 1, 0, 5), could(1, 0, 1, 5), could(1, 0, 0, 1000001), could(0, 1, 1, 5),
                      could(0, 1, 0, 1000001), could(0, 0, 1, 1000001), could(1, 1, 1, 1000001)):
            self.assertEqual(last(*line, wrong), [-1])

    def test_a_refusal_where_it_would_be_0_too(self):
        line = [set_to(0, 9, 5)]
        self.assertEqual(ask(*line, could(1, 0, 1, 4), could(1, 0, 2, 4), could(2, 0, 1, 4))[1:], [[0], [-1], [-1]])

    def test_of_its_own_era(self):
        line = [begins(999999), event(0, 5), event(0, 7)]
        self.assertEqual(self.shown(line, 0, 0, 0, range(10)), [5])
        self.assertEqual(self.shown(line, 1, 0, 0, range(10)), [7])

    def test_a_clock_without_events(self):
        line = [begins(0, 0), event(0, 5)]
        self.assertEqual(self.shown(line, 0, 1, 0, (0, 1, 5, 999999, 1000000)), [0, 1, 5, 999999, 1000000])

    def test_nothing_joins_the_clocks(self):
        line = [begins(0, 0), event(0, 5), event(1, 8)]
        self.assertEqual(self.shown(line, 0, 1, 0, (0, 7, 8, 9, 1000000)), [0, 7, 8, 9, 1000000])

    def test_by_the_other_clock_and_a_signal(self):
        # The other clock showed 10 when 2 to 3 of what clocks count had passed since then.
        line = [begins(0, 0), event(0, 5), event(1, 10), signal(0, 1, 2000000, 3000000)]
        self.assertEqual(self.shown(line, 0, 1, 0, range(15)), [7, 8])
        self.assertEqual(self.shown(line, 1, 0, 0, range(15)), [7, 8])

    def test_at_the_very_bounds(self):
        # One count of the clock is 900000 to 1100000; event 1 is later by just so much as the signal says.
        for way, expected in ((899999, 0), (900000, 1), (1100000, 1), (1100001, 0)):
            line = [begins(0, 100000), event(0, 5), event(1, 10), signal(0, 1, way, way)]
            self.assertEqual(last(*line, could(0, 1, 0, 9)), [expected])
            self.assertEqual(last(*line, could(0, 1, 0, 11)), [0])
            line = [begins(0, 100000), event(0, 5), event(1, 10), signal(1, 0, way, way)]
            self.assertEqual(last(*line, could(0, 1, 0, 11)), [expected])
            self.assertEqual(last(*line, could(0, 1, 0, 9)), [0])

    def test_between_two_events_that_each_leave_room(self):
        # Event 0 is somewhere between the readings 3 and 6 of clock 1.
        line = [begins(0, 0), event(0, 5), event(1, 3), event(1, 6), signal(1, 0, 0, 9000000), signal(0, 2, 0, 9000000)]
        self.assertEqual(self.shown(line, 0, 1, 0, range(10)), [3, 4, 5, 6])
        self.assertEqual(self.shown(line + [signal(1, 0, 1000000, 2000000)], 0, 1, 0, range(10)), [4, 5])
        self.assertEqual(self.shown(line + [signal(1, 0, 1300000, 1700000)], 0, 1, 0, range(10)), [])

    def test_a_slow_and_a_fast_count(self):
        # Clock 1's two counts from 3 to 5 took 1000000 together, the least that they can: so the first took half.
        line = [begins(0, 500000), event(0, 5), event(1, 3), event(1, 5), signal(1, 2, 1000000, 1000000)]
        for way, expected in ((400000, 0), (500000, 1), (600000, 0)):
            self.assertEqual(last(*line, signal(1, 0, way, way), could(0, 1, 0, 4)), [expected])

    def test_by_way_of_others(self):
        line = [begins(0, 0), event(0, 0), event(1, 4), event(1, 6), event(0, 9), signal(0, 1, 0, 3000000)]
        self.assertEqual(self.shown(line, 0, 1, 0, range(10)), [1, 2, 3, 4])
        self.assertEqual(self.shown(line + [signal(2, 3, 0, 5000000)], 0, 1, 0, range(10)), [1, 2])

    def test_each_bound_alone_would_do(self):
        # Event 0 can be behind the setting, and it can be before it; at the reading 10 of the older era it is both.
        line = [begins(0, 0), event(1, 0), set_to(0, 9, 5)]
        self.assertEqual(self.shown(line, 0, 0, 0, range(15)), list(range(10)))

    def test_in_older_eras(self):
        # Event 1 was at the reading 10 of era 0, so no later era.
        self.assertEqual(self.shown(ERAS, 1, 0, 0, range(30)), [10])
        self.assertEqual(self.shown(ERAS, 1, 0, 1, range(30)), [])
        self.assertEqual(self.shown(ERAS, 1, 0, 2, range(70)), [])
        # Nothing joins event 0 to them, but each era has its end and its beginning.
        self.assertEqual(self.shown(ERAS, 0, 0, 0, range(30)), list(range(21)))
        self.assertEqual(self.shown(ERAS, 0, 0, 1, range(30)), [5, 6, 7, 8, 9])
        self.assertEqual(self.shown(ERAS, 0, 0, 2, range(45, 80)), list(range(50, 80)))

    def test_the_two_of_a_setting_in_both_eras(self):
        for number in (2, 3):
            self.assertEqual(self.shown(ERAS, number, 0, 0, range(30)), [20])
            self.assertEqual(self.shown(ERAS, number, 0, 1, range(30)), [5])
            self.assertEqual(self.shown(ERAS, number, 0, 2, range(70)), [])
        for number in (4, 5):
            self.assertEqual(self.shown(ERAS, number, 0, 0, range(30)), [])
            self.assertEqual(self.shown(ERAS, number, 0, 1, range(30)), [9])
            self.assertEqual(self.shown(ERAS, number, 0, 2, range(70)), [50])

    def test_an_era_with_no_room_left(self):
        # Era 1 began and ended at one instant, which event 0 is at or isn't.
        line = [begins(0, 0), event(1, 3), set_to(0, 20, 5), set_to(0, 5, 7)]
        self.assertEqual(self.shown(line, 0, 0, 1, range(30)), [5])
        self.assertEqual(self.shown(line + [signal(2, 0, 1, 9)], 0, 0, 1, range(30)), [])
        self.assertEqual(self.shown(line + [signal(0, 2, 1, 9)], 0, 0, 1, range(30)), [])
        self.assertEqual(self.shown(line + [signal(0, 2, 0, 9)], 0, 0, 1, range(30)), [5])

    def test_a_reading_below_what_its_era_began_with(self):
        line = [begins(999999, 0), event(1, 0), set_to(0, 9, 5)]
        self.assertEqual(ask(*line, could(0, 0, 1, 4), could(0, 0, 1, 5), could(2, 0, 1, 4))[3:], [[0], [1], [0]])

    def test_by_believed_signals_alone(self):
        line = [begins(0, 0), event(0, 5), event(1, 10), signal(0, 1, 2000000, 2000000), signal(0, 1, 3000000, 3000000)]
        self.assertEqual(self.shown(line, 0, 1, 0, range(15)), [8])
        self.assertEqual(self.shown(line + [strike(0)], 0, 1, 0, range(15)), [7])
        self.assertEqual(self.shown(line + [strike(0), strike(1)], 0, 1, 0, range(15)), list(range(15)))

    def test_believed_signals_stay_so(self):
        # The extra event could be there if the signal were doubted for its sake.
        line = [begins(0, 0), event(0, 5), event(1, 10), signal(0, 1, 2000000, 2000000)]
        self.assertEqual(ask(*line, could(0, 1, 0, 9), believed())[4:], [[0], listed(0)])

    def test_at_24_events(self):
        line = [begins(0, 0)] + [event(0, k) for k in range(24)]
        self.assertEqual(ask(*line, could(3, 0, 0, 3), could(3, 0, 0, 4), could(3, 1, 0, 4), event(0, 0))[25:],
                         [[1], [0], [1], [-5]])

    def test_nothing_is_added(self):
        line = ERAS + [signal(0, 1, 5, 9), signal(0, 1, 20, 30)]
        asked = [believed(), between(0, 1), between(0, 7), of(0), of(1), once(0), against(1), could(7, 0, 0, 0),
                 event(0, 50)]
        plain = ask(*line, *asked)[len(line):]
        told = [could(0, 0, 0, 3), could(0, 1, 0, 100), could(0, 0, 1, 1), could(0, 0, 3, 1), could(0, 0, 2, 70)]
        self.assertEqual(ask(*line, *told, *asked)[len(line) + 5:], plain)

    def test_at_22_events_a_setting_still_has_room(self):
        line = [event(0, 3)] * 22
        self.assertEqual(ask(*line, could(0, 0, 0, 3), could(0, 0, 0, 9), set_to(0, 5, 5))[22:], [[1], [0], [22]])


if __name__ == "__main__":
    unittest.main()
