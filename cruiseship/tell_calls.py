"""The calls that only tell how things are."""

from cruiseship.bits import as_bits
from cruiseship.people import ABOARD, ASHORE, GONE
from cruiseship.people import free_cabins, may_leave, members, party_is_there, person_is_there
from cruiseship.people import searched_for, those_who_are
from cruiseship.refusals import NO_DRILL, NONE_THERE
from cruiseship.stores import good_is_there, loaded_in_all, units_of
from cruiseship.tanks import wanted_an_hour
from cruiseship.way import is_at_sea, is_leaving, knots_at, miles_at, way_end


def cr_where(vessel):
    way = vessel.way
    in_port = 0 if is_at_sea(way) else 1
    leaving = 1 if is_leaving(way) else 0
    return [miles_at(way, way.hour), knots_at(way, way.hour), in_port, leaving, way_end(way)]


def cr_ready(vessel):
    people = vessel.people
    ready = 1 if may_leave(people) else 0
    return [ready, len(those_who_are(people, ASHORE)), people.gate, vessel.way.later]


def cr_aboard(vessel):
    people = vessel.people
    aboard = those_who_are(people, ABOARD)
    return [len(aboard), as_bits(aboard), people.most - len(aboard)]


def cr_missing(vessel):
    missing = those_who_are(vessel.people, ASHORE)
    return [len(missing), as_bits(missing)]


def cr_search(vessel):
    people = vessel.people
    if people.drill == 0:
        return [NO_DRILL]
    persons = searched_for(people)
    return [len(persons), as_bits(persons), people.drill]


# A card has its person's number.
def cr_who(vessel, card):
    people = vessel.people
    if not person_is_there(people, card):
        return [NONE_THERE]
    ashore = 1 if people.standing[card] == ASHORE else 0
    return [card, people.persons[card].party, ashore]


def cr_party(vessel, p):
    people = vessel.people
    if not party_is_there(people, p):
        return [NONE_THERE]
    party = people.parties[p]
    return [party.many, as_bits(members(party)), party.cabin]


def cr_cabins(vessel):
    people = vessel.people
    free = free_cabins(people)
    staying = [party for party in range(len(people.parties)) if party_is_there(people, party)]
    return [len(free), as_bits(free), len(people.cabins), len(staying)]


def cr_stock(vessel, g):
    if not good_is_there(vessel.stores, g):
        return [NONE_THERE]
    good = vessel.stores.goods[g]
    return [units_of(good), good.eaten, good.spoilt, good.lacked]


def cr_water(vessel):
    tanks = vessel.tanks
    aboard = those_who_are(vessel.people, ABOARD)
    return [tanks.fresh, tanks.grey, tanks.black, wanted_an_hour(tanks, len(aboard))]


def cr_sums(vessel):
    people = vessel.people
    tanks = vessel.tanks
    gone = those_who_are(people, GONE)
    loaded = loaded_in_all(vessel.stores)
    return [len(people.persons), len(gone), tanks.taken_in, tanks.used, loaded, vessel.way.later]
