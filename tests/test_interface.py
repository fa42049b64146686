import contextlib
import inspect
import io
import unittest

from cruiseship import ship
from cruiseship.ship import answers

from tests.line import PROBE, cabins, row, start

LINE = [start(), ("good", 3, 2), *cabins(2), ("board", 3, 1, 0, 0), ("load", 0, 50), ("leg", 2, 0, 0),
        ("leg", 30, 12, 10), ("set", 1, 1, 1), ("hours", 20), *PROBE]


class Interface(unittest.TestCase):
    def test_the_function(self):
        self.assertEqual(list(inspect.signature(ship.answers).parameters), ["calls"])

    def test_the_numbers_of_the_calls_and_the_form_of_the_answers(self):
        handed_in = [
            0, 17, 10, 100, 10, 100, 100, 100, 3,
            0, 16, 10, 100, 10, 100, 100, 100, 3,
            1, 2, 0, 5, 2, 4, 7, 3, 1, 9, 2, 3, 1, 4, 3, 1, 0, 0, 6, 1, 7, 0, 5, 0, 8, 0, 12,
            14, 1, 9, 20, 10, 18, 2, 11, 0, 1, 0, 12, 13, 1, 15, 16, 8, 1, 1]
        self.assertEqual(answers(handed_in), [
            1, -22,
            1, 0,
            1, 2, 1, 0, 1, 0, 4, 0, 0, 0, 0, 1, 0, 2, 0, 0, 1, -16, 2, 12, 7,
            4, 1, 0, 0, 1, 1, 100, 2, 0, 0, 1, 0, 1, 1, 1, 1, 5, 0, 5, 1, 0, 2, 4, 0, 1, 1, 0, 1, -2])

    def test_the_list_handed_in_stays_the_same(self):
        handed_in = row(LINE)
        before = list(handed_in)
        answers(handed_in)
        self.assertEqual(handed_in, before)

    def test_nothing_is_kept_from_one_time_to_the_next(self):
        first = answers(row(LINE))
        again = answers(row(LINE))
        self.assertEqual(first, again)
        self.assertIsNot(first, again)
        answers(row([start(most=1, last=1), ("gate", 1), ("hours", 48)]))
        self.assertEqual(answers(row(LINE)), first)
        first.clear()
        self.assertEqual(answers(row(LINE)), again)

    def test_whole_numbers_and_lists(self):
        given = answers(row(LINE))
        self.assertIs(type(given), list)
        self.assertEqual({type(number) for number in given}, {int})

    def test_nothing_is_printed(self):
        printed = io.StringIO()
        with contextlib.redirect_stdout(printed), contextlib.redirect_stderr(printed):
            answers(row(LINE))
        self.assertEqual(printed.getvalue(), "")

    def test_the_shortest_line(self):
        self.assertEqual(answers(row([start()])), [1, 0])
        self.assertEqual(answers(row([start(room=0)])), [1, -22])

    def test_a_thousand_calls(self):
        line = [start(uses=0), ("leg", 1, 0, 0), ("leg", 1, 9, 9), ("gate", 1)] + [("hours", 1)] * 996
        self.assertEqual(answers(row(line))[-5:], [4, 996, 1, 0, 1])
        self.assertEqual(answers(row([start()] * 1000)), [1, 0] * 1000)
