"""The calls about stores and water."""

from cruiseship.refusals import NO_ROOM, NONE_THERE, NOT_AS_TOLD, NOT_NOW
from cruiseship.refusals import SO_ALREADY, TOO_LITTLE, TOO_MANY
from cruiseship.stores import add_units, good_is_there, good_to_if_loaded, has_lot
from cruiseship.stores import loaded_in_all, units_in_all, units_of
from cruiseship.tanks import fresh_room, take_in
from cruiseship.way import is_at_sea, today

MOST_LOTS = 6
MOST_LOADED = 1000000000
MOST_LOADED_IN_ALL = 2000000000
MOST_TAKEN_IN = 1000000000


def is_too_much(stores, good, n):
    if units_in_all(stores) + n > stores.room or good.loaded + n > MOST_LOADED:
        return True
    return loaded_in_all(stores) + n > MOST_LOADED_IN_ALL


def cr_load(vessel, g, n):
    stores = vessel.stores
    if not good_is_there(stores, g):
        return [NONE_THERE]
    if n == 0:
        return [NOT_AS_TOLD]
    if is_at_sea(vessel.way):
        return [NOT_NOW]
    good = stores.goods[g]
    if is_too_much(stores, good, n):
        return [NO_ROOM]
    good_to = good_to_if_loaded(good, today(vessel.way))
    if len(good.lots) == MOST_LOTS and not has_lot(good, good_to):
        return [TOO_MANY]
    add_units(good, good_to, n)
    return [units_of(good), good_to]


def cr_bunker(vessel, n):
    tanks = vessel.tanks
    if n == 0:
        return [NOT_AS_TOLD]
    if is_at_sea(vessel.way):
        return [NOT_NOW]
    if n > fresh_room(tanks):
        return [NO_ROOM]
    if tanks.taken_in + n > MOST_TAKEN_IN:
        return [TOO_MANY]
    take_in(tanks, n)
    return [tanks.fresh]


def cr_ashore(vessel, grey, black):
    tanks = vessel.tanks
    if grey == 0 and black == 0:
        return [NOT_AS_TOLD]
    if is_at_sea(vessel.way):
        return [NOT_NOW]
    if grey > tanks.grey or black > tanks.black:
        return [TOO_LITTLE]
    tanks.grey -= grey
    tanks.black -= black
    return [tanks.grey, tanks.black]


def cr_set(vessel, making, grey, black):
    tanks = vessel.tanks
    if making > 1 or grey > 1 or black > 1:
        return [NOT_AS_TOLD]
    before = tanks.making + 2 * tanks.grey_goes + 4 * tanks.black_goes
    if before == making + 2 * grey + 4 * black:
        return [SO_ALREADY]
    tanks.making = making
    tanks.grey_goes = grey
    tanks.black_goes = black
    return [before]
