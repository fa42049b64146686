"""The calls by their numbers."""

from cruiseship.ahead_calls import cr_ahead, cr_lasts, cr_least, cr_short
from cruiseship.bounds import outside
from cruiseship.hour_calls import cr_hours
from cruiseship.people_calls import cr_board, cr_drill, cr_gate, cr_in, cr_leave, cr_scan
from cruiseship.plan_calls import cr_cabin, cr_good, cr_leg
from cruiseship.supply_calls import cr_ashore, cr_bunker, cr_load, cr_set
from cruiseship.tell_calls import cr_aboard, cr_cabins, cr_missing, cr_party, cr_ready, cr_search
from cruiseship.tell_calls import cr_stock, cr_sums, cr_water, cr_where, cr_who

CR_START = 0
CR_LEG = 1
CR_GOOD = 2
CR_CABIN = 3
CR_BOARD = 4
CR_LEAVE = 5
CR_GATE = 6
CR_SCAN = 7
CR_LOAD = 8
CR_BUNKER = 9
CR_ASHORE = 10
CR_SET = 11
CR_DRILL = 12
CR_IN = 13
CR_HOURS = 14
CR_WHERE = 15
CR_READY = 16
CR_ABOARD = 17
CR_MISSING = 18
CR_SEARCH = 19
CR_WHO = 20
CR_PARTY = 21
CR_CABINS = 22
CR_LEAST = 23
CR_SHORT = 24
CR_STOCK = 25
CR_WATER = 26
CR_LASTS = 27
CR_AHEAD = 28
CR_BACK = 30
CR_AGAIN = 31
CR_STATE = 32

# How many numbers stand behind each call's own, by the calls' numbers from 0 on.
NUMBERS_BEHIND = (8, 3, 2, 5, 4, 1, 1, 1, 2, 1, 2, 3, 0, 1, 1, 0, 0,
                  0, 0, 0, 1, 1, 0, 1, 0, 1, 0, 0, 1, 0, 0, 0, 0)


def is_change(call):
    return not outside(call, CR_LEG, CR_HOURS)


def change(vessel, call, numbers):
    if call == CR_LEG:
        return cr_leg(vessel, numbers[0], numbers[1], numbers[2])
    if call == CR_GOOD:
        return cr_good(vessel, numbers[0], numbers[1])
    if call == CR_CABIN:
        return cr_cabin(vessel, numbers[0], numbers[1], numbers[2], numbers[3], numbers[4])
    if call == CR_BOARD:
        return cr_board(vessel, numbers[0], numbers[1], numbers[2], numbers[3])
    if call == CR_LEAVE:
        return cr_leave(vessel, numbers[0])
    if call == CR_GATE:
        return cr_gate(vessel, numbers[0])
    if call == CR_SCAN:
        return cr_scan(vessel, numbers[0])
    if call == CR_LOAD:
        return cr_load(vessel, numbers[0], numbers[1])
    if call == CR_BUNKER:
        return cr_bunker(vessel, numbers[0])
    if call == CR_ASHORE:
        return cr_ashore(vessel, numbers[0], numbers[1])
    if call == CR_SET:
        return cr_set(vessel, numbers[0], numbers[1], numbers[2])
    if call == CR_DRILL:
        return cr_drill(vessel)
    if call == CR_IN:
        return cr_in(vessel, numbers[0])
    return cr_hours(vessel, numbers[0])


# None of these changes the ship.
def tell(vessel, call, numbers):
    if call == CR_WHERE:
        return cr_where(vessel)
    if call == CR_READY:
        return cr_ready(vessel)
    if call == CR_ABOARD:
        return cr_aboard(vessel)
    if call == CR_MISSING:
        return cr_missing(vessel)
    if call == CR_SEARCH:
        return cr_search(vessel)
    if call == CR_WHO:
        return cr_who(vessel, numbers[0])
    if call == CR_PARTY:
        return cr_party(vessel, numbers[0])
    if call == CR_CABINS:
        return cr_cabins(vessel)
    if call == CR_LEAST:
        return cr_least(vessel, numbers[0])
    if call == CR_SHORT:
        return cr_short(vessel)
    if call == CR_STOCK:
        return cr_stock(vessel, numbers[0])
    if call == CR_WATER:
        return cr_water(vessel)
    if call == CR_LASTS:
        return cr_lasts(vessel)
    if call == CR_AHEAD:
        return cr_ahead(vessel, numbers[0])
    return cr_sums(vessel)
