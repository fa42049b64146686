import unittest

from cruiseship.voyage import answer_call

from tests.line import NUMBERS, cabins, shown, start, voyage_behind

# Each of the calls that change something, none refused.
CHANGES = [
    ("leg", 30, 0, 0), ("good", 3, 2), ("cabin", 1, 1, 2, 4, 1), ("cabin", 1, 2, 2, 4, 1), ("board", 3, 1, 0, 0),
    ("load", 0, 50), ("gate", 1), ("scan", 0), ("scan", 9), ("scan", 1), ("scan", 2), ("scan", 0), ("leg", 3, 12, 12),
    ("scan", 2), ("scan", 1), ("board", 1, 0, 0, 0), ("hours", 29), ("scan", 3), ("leave", 1), ("hours", 3),
    ("load", 0, 7), ("load", 0, 7), ("bunker", 9), ("ashore", 5, 1), ("set", 1, 1, 1), ("drill",), ("in", 0),
    ("hours", 1), ("in", 0), ("drill",), ("gate", 0), ("hours", 30), ("good", 4, 4), ("hours", 24),
]


def call_on(voyage, call):
    return answer_call(voyage, NUMBERS[call[0]], list(call[1:]))


# What point 1 says of changes, as far as it can be seen before they can be taken back.
class Changes(unittest.TestCase):
    def begun(self):
        return voyage_behind([start()])

    def test_a_change_keeps_the_ship_as_it_was(self):
        voyage = self.begun()
        ships = []
        for call in CHANGES:
            before = shown(voyage.vessel)
            ships.append(before)
            self.assertGreaterEqual(call_on(voyage, call)[0], 0, call)
            self.assertNotEqual(shown(voyage.vessel), before, call)
            self.assertEqual([shown(vessel) for vessel in voyage.past], ships[-20:], call)

    def test_the_last_twenty_alone(self):
        voyage = self.begun()
        for number in range(1, 25):
            call_on(voyage, ("drill",))
            self.assertEqual(len(voyage.past), min(number, 20))
        self.assertEqual([vessel.people.drill for vessel in voyage.past], list(range(4, 24)))

    def test_a_card_that_does_not_count_is_a_change(self):
        voyage = voyage_behind([start(), ("gate", 1), ("scan", 3)])
        self.assertEqual(len(voyage.past), 2)

    def test_a_change_forgets_what_could_be_done_again(self):
        voyage = voyage_behind([start(), ("drill",)])
        voyage.undone = [voyage.vessel]
        for call in [("gate", 0), ("where",), ("ready",), ("start", 0, 0, 0, 0, 0, 0, 0, 0)]:
            call_on(voyage, call)
            self.assertEqual(len(voyage.undone), 1, call)
        call_on(voyage, ("gate", 1))
        self.assertEqual(voyage.undone, [])

    def test_a_refusal_and_telling_are_no_changes(self):
        voyage = voyage_behind([start(), *cabins(1), ("board", 1, 0, 0, 0)])
        vessel = voyage.vessel
        before = shown(voyage)
        for call in [("leg", 0, 0, 0), ("good", 0, 0), ("cabin", 1, 0, 0, 1, 0), ("board", 1, 0, 0, 0), ("leave", 0),
                     ("gate", 0), ("scan", 0), ("load", 0, 1), ("bunker", 1), ("ashore", 1, 1), ("set", 0, 0, 0),
                     ("in", 0), ("hours", 0), ("start", 0, 0, 0, 0, 0, 0, 0, 0)]:
            self.assertLess(call_on(voyage, call)[0], 0, call)
        call_on(voyage, ("where",))
        call_on(voyage, ("ready",))
        self.assertIs(voyage.vessel, vessel)
        self.assertEqual(shown(voyage), before)

    def test_a_start_leaves_no_changes(self):
        voyage = voyage_behind([start(), ("drill",), ("drill",)])
        voyage.undone = [voyage.vessel]
        call_on(voyage, start())
        self.assertEqual((voyage.past, voyage.undone), ([], []))
