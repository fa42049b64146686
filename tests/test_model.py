import random
import unittest

from cruiseship.ship import answers

from tests.line import BIG, NUMBERS, row, split, start
from tests.model import model_answers

OFTEN = (["hours"] * 8 + ["scan"] * 8 + ["load"] * 4 + ["gate"] * 3 + ["leave", "board", "drill", "in", "in", "set"] * 2
         + ["back"] * 4 + ["again"] * 3 + ["least", "short", "lasts", "ahead"] * 2)


def random_start(dice):
    return start(most=dice.choice([2, 5, 9, 16]), uses=dice.choice([0, 1, 7, 10, 80]), fresh=dice.randint(1, 9000),
                 makes=dice.randint(1, 300), grey=dice.randint(1, 5000), black=dice.randint(1, 700),
                 room=dice.choice([30, 500, 2000]), last=dice.choice([1, 2, 4, 9, 20]))


def random_numbers(dice, name):
    return {
        "start": random_start(dice)[1:],
        "leg": (dice.choice([1, 5, 13, 24, 30, 70]), dice.choice([0, 0, 3, 4, 11, 12, 30]), dice.randint(3, 7)),
        "good": (dice.randint(1, 6), dice.choice([1, 1, 2, 3, 5, 30])),
        "cabin": (dice.randint(0, 2), dice.randint(0, 4), dice.randint(0, 3), dice.randint(1, 6), dice.randint(0, 1)),
        "board": (dice.randint(1, 4), dice.randint(0, 2), dice.randint(0, 2), dice.randint(0, 1)),
        "leave": (dice.randint(0, 5),), "gate": (dice.randint(0, 1),), "scan": (dice.randint(0, 9),),
        "load": (dice.randint(0, 3), dice.randint(1, 70)), "bunker": (dice.randint(1, 900),),
        "ashore": (dice.randint(0, 400), dice.randint(0, 40)),
        "set": (dice.randint(0, 1), dice.randint(0, 1), dice.randint(0, 1)),
        "in": (dice.randint(0, 9),), "hours": (dice.choice([1, 1, 2, 5, 19, 24, 60]),),
        "who": (dice.randint(0, 12),), "party": (dice.randint(0, 5),), "least": (dice.randint(0, 3),),
        "stock": (dice.randint(0, 3),), "ahead": (dice.choice([1, 3, 24, 49, 240]),),
    }.get(name, ())


def random_call(dice):
    name = dice.choice(list(NUMBERS)[1:] + OFTEN)
    if dice.random() < 0.005:
        name = "start"
    numbers = list(random_numbers(dice, name))
    if numbers and dice.random() < 0.05:
        numbers[dice.randrange(len(numbers))] = dice.choice([0, 1, 2, 6, 7, 16, 17, 61, 241, 501, 1001, BIG])
    return (name, *numbers)


# A ship that has something of everything, in random order; some of these are refused.
def random_line(dice, calls):
    outset = [("leg", dice.choice([1, 3, 20]), 0, 0)]
    outset += [("cabin", 1, place, dice.randint(1, 3), dice.randint(2, 6), dice.randint(0, 1)) for place in range(4)]
    outset += [("good", dice.randint(1, 5), dice.choice([1, 2, 4, 20])) for good in range(3)]
    outset += [("load", good, dice.randint(1, 90)) for good in range(3)]
    outset += [("board", dice.randint(1, 4), dice.randint(0, 1), 0, 0) for party in range(2)]
    outset += [("leg", dice.choice([2, 30, 80]), dice.choice([0, 3, 12, 40]), dice.randint(3, 9)) for leg in range(2)]
    return [random_start(dice), *outset, *[random_call(dice) for each in range(calls)]]


class AgainstTheModel(unittest.TestCase):
    def test_random_lines(self):
        for seed in range(60):
            line = random_line(random.Random(seed), 120)
            told = split(answers(row(line)))
            meant = split(model_answers(row(line)))
            for number, call in enumerate(line):
                self.assertEqual(told[number], meant[number], (seed, line[:number + 1]))
            self.assertEqual(len(told), len(line))
