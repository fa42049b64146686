"""What the tests share: calls by name, played through cruiseship.ship.answers."""

import unittest

from cruiseship.people import People
from cruiseship.ship import answers
from cruiseship.stores import Stores
from cruiseship.tanks import Tanks
from cruiseship.vessel import Vessel
from cruiseship.voyage import Voyage, answer_call
from cruiseship.way import Way

NUMBERS = {
    "start": 0, "leg": 1, "good": 2, "cabin": 3, "board": 4, "leave": 5, "gate": 6, "scan": 7,
    "load": 8, "bunker": 9, "ashore": 10, "set": 11, "drill": 12, "in": 13, "hours": 14,
    "where": 15, "ready": 16, "aboard": 17, "missing": 18, "search": 19, "who": 20, "party": 21,
    "cabins": 22, "least": 23, "short": 24, "stock": 25, "water": 26, "lasts": 27, "ahead": 28,
    "sums": 29, "back": 30, "again": 31, "state": 32,
}
OUTS = {
    "scan": 1, "load": 1, "ashore": 1, "missing": 1, "least": 1, "short": 1, "aboard": 2, "search": 2, "who": 2,
    "party": 2, "board": 3, "hours": 3, "ready": 3, "cabins": 3, "stock": 3, "water": 3, "ahead": 3, "where": 4,
    "sums": 5, "state": 6,
}
BIG = 4294967295

NONE, NO_DRILL, LESS, BUSY, SO, WRONG, FULL, UNFIT, ROOM, LATE = (
    -2, -6, -12, -16, -17, -22, -28, -33, -62, -75)


def start(most=16, uses=10, fresh=100000, makes=100, grey=50000, black=50000, room=1000000, last=60):
    return ("start", most, uses, fresh, makes, grey, black, room, last)


def cabins(many, berths=6, rank=3, flat=1):
    return [("cabin", 1, place, rank, berths, flat) for place in range(many)]


# From hour 1 on at sea; somebody on board, one good.
AT_SEA = [start(), ("good", 2, 3), *cabins(2), ("board", 2, 1, 0, 0),
          ("leg", 1, 0, 0), ("leg", 5, 12, 10), ("hours", 1)]

# Each call that tells how the ship is, or would be.
TOLD = [
    ("where",), ("ready",), ("aboard",), ("missing",), ("search",), *[("who", card) for card in range(17)],
    *[("party", party) for party in range(9)], ("cabins",), *[("least", g) for g in range(7)], ("short",),
    *[("stock", g) for g in range(7)], ("water",), ("lasts",), ("ahead", 1), ("ahead", 40), ("sums",),
]

# Calls that bring to light, one behind another, nearly all that a ship can hold.
PROBE = [
    *TOLD, *[("in", p) for p in range(16)], ("drill",), *[("in", p) for p in range(16)],
    *[("load", g, 1) for g in range(6)], ("ashore", 1, 0), ("ashore", 0, 1), ("bunker", 1),
    ("set", 1, 1, 0), ("set", 0, 0, 1), ("hours", 1), ("where",), ("ready",), ("hours", 7),
    ("gate", 1), *[("scan", card) for card in range(16)], ("ready",), ("hours", 1),
    *[("scan", card) for card in range(5)], *[("leave", party) for party in range(8)],
    ("gate", 0), ("ready",), ("board", 2, 1, 1, 0), ("board", 1, 0, 0, 1), ("cabin", 1, 0, 0, 2, 0),
    ("cabin", 7, 0, 0, 2, 0), ("good", 1, 1), ("leg", 2, 0, 0), ("where",), ("hours", 16),
    *[("load", g, 1) for g in range(6)], ("hours", 24), *[("load", g, 1) for g in range(6)],
    ("bunker", 1), ("ashore", 1, 1), ("ready",), ("where",), ("leg", 2, 0, 0), ("good", 1, 1),
    ("hours", 240), ("hours", 240), ("hours", 240), *TOLD,
]

# Calls that bring to light all that can be taken back or done again.
HISTORY = [
    ("state",), *[("again",), ("state",)] * 3, *[("back",), ("state",), ("sums",), ("water",)] * 21,
    ("aboard",), ("cabins",), *[("again",), ("sums",), ("cabins",)] * 21, ("state",),
]


def row(calls):
    numbers = []
    for call in calls:
        numbers.append(NUMBERS[call[0]])
        numbers.extend(call[1:])
    return numbers


def split(given):
    parts = []
    at = 0
    while at < len(given):
        parts.append(given[at + 1:at + 1 + given[at]])
        at += 1 + given[at]
    return parts


def play(calls):
    return split(answers(row(calls)))


# What no call of a line can bring about, or bring to light, is tested on the objects themselves.
def bare_vessel():
    return Vessel(Way(60), People(16), Tanks(1, 10, 1, 10, 10), Stores(10))


def voyage_behind(calls):
    voyage = Voyage()
    for call in calls:
        answer_call(voyage, NUMBERS[call[0]], list(call[1:]))
    return voyage


def shown(thing):
    if isinstance(thing, list):
        return [shown(part) for part in thing]
    if hasattr(thing, "__dict__"):
        return {name: shown(part) for name, part in vars(thing).items()}
    return thing


class LineCase(unittest.TestCase):
    def played(self, calls):
        handed_in = row(calls)
        before = list(handed_in)
        given = answers(handed_in)
        self.assertEqual(handed_in, before)
        self.assertIs(type(given), list)
        self.assertTrue(all(type(number) is int for number in given))
        parts = split(given)
        self.assertEqual(len(parts), len(calls))
        for call, part in zip(calls, parts):
            self.assertEqual(len(part), 1 if part[0] < 0 else 1 + OUTS.get(call[0], 0), call)
        return parts

    def last(self, calls):
        return self.played(calls)[-1]

    # None of the calls that lead up to what is tested may be refused by mistake.
    def led_up(self, before):
        for call, part in zip(before, self.played(before)):
            self.assertGreaterEqual(part[0], 0, call)

    def refused(self, code, before, call):
        self.led_up(before)
        self.assertEqual(self.last([*before, call]), [code], call)
        self.changes_nothing(before, call)

    def changes_nothing(self, before, call):
        probe = [*HISTORY, *PROBE]
        self.assertEqual(self.played([*before, call, *probe])[len(before) + 1:],
                         self.played([*before, *probe])[len(before):], call)

    def answered(self, answer, before, call):
        self.led_up(before)
        self.assertEqual(self.last([*before, call]), answer, call)
