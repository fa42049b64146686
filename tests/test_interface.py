import contextlib
import inspect
import io
import unittest

from cruiseship import ship
from cruiseship.ship import answers

from tests.line import HISTORY, NUMBERS, OUTS, PROBE, cabins, row, split, start

LINE = [start(), ("good", 3, 2), *cabins(2), ("board", 3, 1, 0, 0), ("load", 0, 50), ("leg", 2, 0, 0),
        ("leg", 30, 12, 10), ("set", 1, 1, 1), ("hours", 20), *HISTORY, *PROBE]


class Interface(unittest.TestCase):
    def test_the_function(self):
        self.assertEqual(list(inspect.signature(ship.answers).parameters), ["calls"])

    def test_the_numbers_of_the_calls_and_the_form_of_the_answers(self):
        handed_in = [
            0, 17, 10, 100, 10, 100, 100, 100, 3,
            0, 16, 10, 100, 10, 100, 100, 100, 3,
            1, 2, 0, 5, 2, 4, 7, 3, 1, 9, 2, 3, 1, 4, 3, 1, 0, 0, 6, 1, 7, 0, 5, 0, 8, 0, 12,
            14, 1, 9, 20, 10, 18, 2, 11, 0, 1, 0, 12, 13, 1, 15, 16, 8, 1, 1]
        self.assertEqual(answers(handed_in), [
            1, -22,
            1, 0,
            1, 2, 1, 0, 1, 0, 4, 0, 0, 0, 0, 1, 0, 2, 0, 0, 1, -16, 2, 12, 7,
            4, 1, 0, 0, 1, 1, 100, 2, 0, 0, 1, 0, 1, 1, 1, 1, 5, 0, 5, 1, 0, 2, 4, 0, 1, 1, 0, 1, -2])

    def test_the_numbers_of_the_calls_that_tell(self):
        handed_in = [
            0, 16, 10, 100, 10, 100, 100, 100, 3, 3, 4, 7, 3, 6, 1, 2, 4, 7, 4, 3, 1, 0, 0, 8, 0, 9, 1, 30, 0, 0, 12,
            17, 18, 19, 20, 2, 21, 0, 22, 23, 0, 24, 25, 0, 26, 27, 28, 2, 29, 30, 32, 31, 32, 20, 3, 21, 1, 23, 1,
            25, 1, 28, 0]
        self.assertEqual(answers(handed_in), [
            1, 0, 1, 0, 1, 0, 4, 0, 0, 0, 0, 2, 9, 7, 1, 30, 1, 1,
            3, 3, 7, 13, 2, 0, 0, 3, 3, 7, 1, 3, 2, 0, 0, 3, 3, 7, 0, 4, 0, 0, 1, 1, 2, 3, 1, 2, 1, 1, 4, 9, 0, 0, 0,
            4, 100, 0, 0, 30, 1, 3, 4, 40, 0, 1, 0, 6, 3, 0, 0, 0, 9, 0, 1, 5, 7, 0, 0, 1, 1, 1, 5, 1, 1, 0,
            7, 0, 0, 1, 1, 1, 6, 0, 1, -2, 1, -2, 1, -2, 1, -2, 1, -22])

    def test_how_many_numbers_each_answers(self):
        line = [start(), ("good", 3, 2), *cabins(2), ("board", 3, 1, 0, 0), ("load", 0, 50), ("leg", 30, 0, 0),
                ("gate", 1), ("scan", 0), ("scan", 1), ("scan", 2), ("leave", 0), ("board", 2, 0, 0, 0),
                ("set", 1, 1, 1), ("drill",), ("in", 3), ("hours", 5), ("bunker", 5), ("ashore", 5, 1), ("where",), ("ready",),
                ("aboard",), ("missing",), ("search",), ("who", 3), ("party", 1), ("cabins",), ("least", 0), ("short",),
                ("stock", 0), ("water",), ("lasts",), ("ahead", 5), ("sums",), ("back",), ("again",), ("state",)]
        self.assertEqual({call[0] for call in line}, set(NUMBERS))
        parts = split(answers(row(line)))
        for call, part in zip(line, parts):
            self.assertGreaterEqual(part[0], 0, call)
            self.assertEqual(len(part), 1 + OUTS.get(call[0], 0), call)

    def test_the_list_handed_in_stays_the_same(self):
        handed_in = row(LINE)
        before = list(handed_in)
        answers(handed_in)
        self.assertEqual(handed_in, before)

    def test_nothing_is_kept_from_one_time_to_the_next(self):
        first = answers(row(LINE))
        again = answers(row(LINE))
        self.assertEqual(first, again)
        self.assertIsNot(first, again)
        answers(row([start(most=1, last=1), ("gate", 1), ("hours", 48)]))
        self.assertEqual(answers(row(LINE)), first)
        first.clear()
        self.assertEqual(answers(row(LINE)), again)

    def test_whole_numbers_and_lists(self):
        given = answers(row(LINE))
        self.assertIs(type(given), list)
        self.assertEqual({type(number) for number in given}, {int})

    def test_nothing_is_printed(self):
        printed = io.StringIO()
        with contextlib.redirect_stdout(printed), contextlib.redirect_stderr(printed):
            answers(row(LINE))
        self.assertEqual(printed.getvalue(), "")

    def test_the_shortest_line(self):
        self.assertEqual(answers(row([start()])), [1, 0])
        self.assertEqual(answers(row([start(room=0)])), [1, -22])

    def test_a_thousand_calls(self):
        line = [start(uses=0), ("leg", 1, 0, 0), ("leg", 1, 9, 9), ("gate", 1)] + [("hours", 1)] * 996
        self.assertEqual(answers(row(line))[-5:], [4, 996, 1, 0, 1])
        self.assertEqual(answers(row([start()] * 1000)), [1, 0] * 1000)
        line = [*LINE, *LINE, *LINE][:1000]
        self.assertEqual(len(line), 1000)
        self.assertEqual(answers(row(line))[:len(answers(row(LINE)))], answers(row(LINE)))

    def test_a_thousand_calls_back_and_forth(self):
        line = [start(uses=0), ("hours", 240), *[("back",), ("again",)] * 499]
        self.assertEqual(answers(row(line))[-4:], [1, 0, 1, 0])
        line = [start(uses=0), *[("hours", 240), ("back",), ("again",), ("back",)] * 249, ("hours", 240), ("lasts",),
                ("state",)]
        self.assertEqual(answers(row(line))[-15:], [4, 240, 0, 0, 1, 1, 500, 7, 240, 10, 0, 0, 0, 1, 0])

    def test_a_thousand_calls_that_tell(self):
        for call in [("lasts",), ("ahead", 240), ("least", 0), ("short",)]:
            line = [start(), ("good", 1, 1), *[call] * 998]
            parts = split(answers(row(line)))
            self.assertEqual(len(parts), 1000)
            self.assertEqual(parts[2:], [parts[2]] * 998)
