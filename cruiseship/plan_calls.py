"""The calls that lay out the voyage: legs, goods, cabins."""

from cruiseship.bounds import outside
from cruiseship.people import Cabin
from cruiseship.refusals import NOT_AS_TOLD, NOT_NOW, TOO_MANY
from cruiseship.stores import Good
from cruiseship.way import Leg, way_end

MOST_LEGS = 10
MOST_GOODS = 6
MOST_CABINS = 12


# A leg at sea that began at once would take the ship out of port without the look at who is missing.
def cr_leg(vessel, hours, miles, knots):
    way = vessel.way
    if miles > 0 and way_end(way) <= way.hour:
        return [NOT_NOW]
    if outside(hours, 1, 500) or miles > 1000 or knots > 40:
        return [NOT_AS_TOLD]
    if len(way.legs) == MOST_LEGS:
        return [TOO_MANY]
    if way.hour > way_end(way):
        return [NOT_NOW]
    way.legs.append(Leg(hours, miles, knots))
    return [way_end(way)]


def cr_good(vessel, per, life):
    goods = vessel.stores.goods
    if outside(per, 1, 1000) or outside(life, 1, 100):
        return [NOT_AS_TOLD]
    if len(goods) == MOST_GOODS:
        return [TOO_MANY]
    goods.append(Good(per, life))
    return [len(goods) - 1]


def is_built(cabins, deck, place):
    return any([cabin.deck == deck and cabin.place == place for cabin in cabins])


def cr_cabin(vessel, deck, place, rank, berths, flat):
    cabins = vessel.people.cabins
    if deck > 20 or place > 500 or rank > 3 or outside(berths, 1, 6) or flat > 1:
        return [NOT_AS_TOLD]
    if is_built(cabins, deck, place):
        return [NOT_AS_TOLD]
    if len(cabins) == MOST_CABINS:
        return [TOO_MANY]
    cabins.append(Cabin(deck, place, rank, berths, flat))
    return [len(cabins) - 1]
