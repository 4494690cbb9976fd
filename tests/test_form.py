import contextlib
import io
import unittest

from clocksroom.room import answers
from tests.lines import (
    against, begins, believed, between, could, event, of, once, order, reason, set_to, signal, strike)

LINE = (begins(0, 100) + event(0, 5) + event(1, 7) + between(0, 1) + signal(0, 1, 5, 10) + between(0, 1)
        + believed() + set_to(0, 9, 3) + order(0, 1) + reason(1, 3) + signal(1, 0, 5, 10) + against(1) + against(0)
        + could(0, 0, 0, 5) + could(0, 0, 1, 5) + of(0) + once(2) + strike(0) + strike(0) + strike(2) + event(0, 2)
        + order(0, 4) + reason(0, 4) + reason(0, 1) + against(0) + against(2) + could(0, 0, 2, 5) + of(2) + once(4))
ANSWERS = [
    1, 0, 1, 0, 1, 1, 3, 0, 0, 0, 1, 0, 5, 0, 1, 5, 1, 10,
    3, 1, 1, 0, 1, 2, 1, 1, 6, 3, 4, 1, 0, 2, 3, 1, 1, 4, 1, 2, 1, 0, 1, 0,
    1, 1, 1, 0, 5, 3, 3, 0, 2, 3, 4, 2, 2, 2, 3, 1, 0, 1, -4, 1, -2, 1, -6,
    1, -1, 1, -1, 4, 1, 2, 0, 1, 1, -4, 1, -2, 1, -1, 1, -1, 1, -1]


class Form(unittest.TestCase):
    def test_each_answer_behind_how_many_numbers_it_has(self):
        self.assertEqual(answers(LINE), ANSWERS)

    def test_one_call(self):
        self.assertEqual(answers([5]), [2, 0, 0])
        self.assertEqual(answers([0, 0]), [1, -1])
        for call in ([6, 0, 0], [7, 0, 0], [8, 0, 0], [10, 0, 0, 0, 0], [11, 1], [12, 0]):
            self.assertEqual(answers(call), [1, -1])
        self.assertEqual(answers([9, 0]), [1, -2])
        self.assertEqual(answers([11, 0]), [2, 0, 0])

    def test_the_call_behind_begins_is_found(self):
        for count in (0, 1, 6, 7, 60):
            given = answers([0, count] + [5] * count + [5])
            self.assertEqual(given, [1, 0 if 1 <= count <= 6 else -1, 2, 0, 0])

    def test_a_list_of_whole_numbers(self):
        given = answers(LINE)
        self.assertIs(type(given), list)
        self.assertEqual({type(number) for number in given}, {int})

    def test_what_is_handed_in_is_as_it_was(self):
        line = list(LINE)
        answers(line)
        self.assertEqual(line, LINE)

    def test_what_is_handed_in_is_not_changed_for_a_while_either(self):
        class Still(list):
            def refuse(self, *args):
                raise AssertionError("changed")
            __setitem__ = __delitem__ = __iadd__ = append = extend = insert = pop = remove = refuse
            clear = sort = reverse = __imul__ = refuse

        self.assertEqual(answers(Still(LINE)), ANSWERS)

    def test_what_is_given_back_is_new(self):
        line = list(LINE)
        given = answers(line)
        given.clear()
        self.assertEqual(line, LINE)
        self.assertEqual(answers(line), ANSWERS)

    def test_nothing_is_kept(self):
        first = answers(LINE)
        answers(begins(7) + event(0, 1) + set_to(0, 3, 2) + signal(0, 1, 0, 9))
        self.assertEqual(answers(LINE), first)
        self.assertEqual(answers(event(0, 0) + believed()), [1, 0, 2, 0, 0])

    def test_nothing_is_printed(self):
        out, err = io.StringIO(), io.StringIO()
        with contextlib.redirect_stdout(out), contextlib.redirect_stderr(err):
            answers(LINE)
        self.assertEqual(out.getvalue() + err.getvalue(), "")

    def test_sixty_calls(self):
        line = begins(0, 0)
        for k in range(24):
            line += event(k % 2, k)
        for k in range(30):
            line += signal(k % 24, (k + 1) % 24, 0, 3000000)
        for k in range(5):
            line += between(0, 23)
        given = answers(line)
        # Event 23 is of the clock that only signals join to event 0's.
        self.assertEqual(given[-6:], given[-12:-6])
        self.assertEqual(given[-6:-3], [5, 0, 1])


if __name__ == "__main__":
    unittest.main()
