import random
import unittest

from cruiseship.people import ABOARD, ASHORE, GONE
from cruiseship.stores import units_in_all, units_of
from cruiseship.voyage import Voyage, answer_call

from tests.line import NUMBERS, cabins, shown, start


def random_start(dice):
    return start(most=dice.randint(1, 16), uses=dice.randint(0, 80), fresh=dice.randint(1, 4000),
                 makes=dice.randint(1, 500), grey=dice.randint(1, 3000), black=dice.randint(1, 400),
                 room=dice.randint(1, 3000), last=dice.randint(1, 60))


def random_call(dice):
    name = dice.choice(list(NUMBERS)[1:] + ["scan"] * 8 + ["hours"] * 4 + ["gate"] * 3 + ["leg", "leave", "board"])
    numbers = {
        "leg": (dice.randint(0, 30), dice.choice([0, 0, 3, 4, 11, 12, 30]), dice.randint(0, 12)),
        "good": (dice.randint(0, 20), dice.randint(0, 5)),
        "cabin": (dice.randint(0, 2), dice.randint(0, 5), dice.randint(0, 4), dice.randint(0, 6), dice.randint(0, 1)),
        "board": (dice.randint(1, 5), dice.randint(0, 2), dice.randint(0, 3), dice.randint(0, 1)),
        "leave": (dice.randint(0, 8),), "gate": (dice.randint(0, 1),), "scan": (dice.randint(0, 16),),
        "load": (dice.randint(0, 6), dice.randint(0, 700)), "bunker": (dice.randint(0, 2000),),
        "ashore": (dice.randint(0, 500), dice.randint(0, 50)),
        "set": (dice.randint(0, 1), dice.randint(0, 1), dice.randint(0, 1)),
        "in": (dice.randint(0, 16),), "hours": (dice.choice([1, 1, 1, 2, 5, 24]),),
        "who": (dice.randint(0, 16),), "party": (dice.randint(0, 8),), "least": (dice.randint(0, 6),),
        "stock": (dice.randint(0, 6),), "ahead": (dice.choice([1, 24, 240]),),
    }
    return (name, *numbers.get(name, ()))


class Holds(unittest.TestCase):
    def test_through_random_calls(self):
        for seed in range(60):
            dice = random.Random(seed)
            voyage = Voyage()
            first = random_start(dice)
            answer_call(voyage, 0, list(first[1:]))
            for call in cabins(3):
                answer_call(voyage, NUMBERS["cabin"], list(call[1:]))
            for each in range(300):
                call = random_call(dice)
                before = shown(voyage.vessel)
                where = answer_call(voyage, NUMBERS["where"], [])
                ready = answer_call(voyage, NUMBERS["ready"], [])
                answer = answer_call(voyage, NUMBERS[call[0]], list(call[1:]))
                if answer[0] < 0 or 15 <= NUMBERS[call[0]] <= 29 or call == ("state",):
                    self.assertEqual(shown(voyage.vessel), before)
                elif call == ("hours", 1):
                    self.look_at_leaving(where, ready, answer)
                    self.look_at_what_was_wanted(before, shown(voyage.vessel), answer)
                self.look_at(voyage.vessel, first)
                self.look_at_the_search(voyage)

    def look_at_the_search(self, voyage):
        people = voyage.vessel.people
        meant = [person for person, minute in enumerate(people.minutes)
                 if people.standing[person] == ABOARD and minute < 0]
        told = [len(meant), sum(2 ** person for person in meant), people.drill]
        self.assertEqual(answer_call(voyage, NUMBERS["search"], []), told if people.drill else [-6])

    def look_at_leaving(self, where, ready, answer):
        later = 1 if where[3] == 1 and ready[0] == 0 else 0
        self.assertEqual(answer[1], later)
        if later:
            self.assertEqual(answer[3], 1)
        elif where[3] == 1:
            self.assertEqual(answer[3], 0)

    def look_at_what_was_wanted(self, before, behind, answer):
        aboard = before["people"]["standing"].count(ABOARD)
        used = behind["tanks"]["used"] - before["tanks"]["used"]
        self.assertEqual(used + answer[2], aboard * before["tanks"]["uses"])
        days = 1 if answer[0] % 24 == 0 else 0
        for good, then in zip(before["stores"]["goods"], behind["stores"]["goods"]):
            eaten = then["eaten"] - good["eaten"]
            self.assertEqual(eaten + then["lacked"] - good["lacked"], days * aboard * good["per"])

    def look_at(self, vessel, first):
        people, tanks, stores, way = vessel.people, vessel.tanks, vessel.stores, vessel.way
        ends = [sum(leg.hours for leg in way.legs[:k + 1]) for k in range(len(way.legs))]
        miles = [leg.miles for leg, end in zip(way.legs, ends) if end > way.hour]
        if miles and miles[0] > 0:
            self.assertNotIn(ASHORE, people.standing)
            self.assertEqual(people.gate, 0)
        self.assertLessEqual(people.standing.count(ABOARD), first[1])
        held = [party.cabin for party in people.parties if people.standing[party.first] != GONE]
        self.assertEqual(len(held), len(set(held)))
        for party in people.parties:
            self.assertLessEqual(party.many, people.cabins[party.cabin].berths)
        self.assertEqual(first[3] + tanks.taken_in, tanks.fresh + tanks.used)
        self.assertTrue(0 <= tanks.fresh <= first[3] and 0 <= tanks.grey <= first[5] and 0 <= tanks.black <= first[6])
        for good in stores.goods:
            self.assertEqual(good.loaded, good.eaten + good.spoilt + units_of(good))
            self.assertLessEqual(len(good.lots), 6)
            days = [lot.good_to for lot in good.lots]
            self.assertEqual(days, sorted(set(days)))
            self.assertTrue(all(lot.units > 0 and lot.good_to >= way.hour // 24 for lot in good.lots))
        self.assertLessEqual(units_in_all(stores), first[7])
