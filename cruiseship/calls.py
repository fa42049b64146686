"""The calls by their numbers."""

from cruiseship.bounds import outside
from cruiseship.hour_calls import cr_hours
from cruiseship.people_calls import cr_board, cr_drill, cr_gate, cr_in, cr_leave, cr_scan
from cruiseship.plan_calls import cr_cabin, cr_good, cr_leg
from cruiseship.supply_calls import cr_ashore, cr_bunker, cr_load, cr_set
from cruiseship.tell_calls import cr_ready, cr_where

CR_START = 0
CR_LEG = 1
CR_GOOD = 2
CR_CABIN = 3
CR_BOARD = 4
CR_LEAVE = 5
CR_GATE = 6
CR_SCAN = 7
CR_LOAD = 8
CR_BUNKER = 9
CR_ASHORE = 10
CR_SET = 11
CR_DRILL = 12
CR_IN = 13
CR_HOURS = 14
CR_WHERE = 15

# How many numbers stand behind each call's own, by the calls' numbers from 0 on.
NUMBERS_BEHIND = (8, 3, 2, 5, 4, 1, 1, 1, 2, 1, 2, 3, 0, 1, 1, 0, 0)


def is_change(call):
    return not outside(call, CR_LEG, CR_HOURS)


def change(vessel, call, numbers):
    if call == CR_LEG:
        return cr_leg(vessel, numbers[0], numbers[1], numbers[2])
    if call == CR_GOOD:
        return cr_good(vessel, numbers[0], numbers[1])
    if call == CR_CABIN:
        return cr_cabin(vessel, numbers[0], numbers[1], numbers[2], numbers[3], numbers[4])
    if call == CR_BOARD:
        return cr_board(vessel, numbers[0], numbers[1], numbers[2], numbers[3])
    if call == CR_LEAVE:
        return cr_leave(vessel, numbers[0])
    if call == CR_GATE:
        return cr_gate(vessel, numbers[0])
    if call == CR_SCAN:
        return cr_scan(vessel, numbers[0])
    if call == CR_LOAD:
        return cr_load(vessel, numbers[0], numbers[1])
    if call == CR_BUNKER:
        return cr_bunker(vessel, numbers[0])
    if call == CR_ASHORE:
        return cr_ashore(vessel, numbers[0], numbers[1])
    if call == CR_SET:
        return cr_set(vessel, numbers[0], numbers[1], numbers[2])
    if call == CR_DRILL:
        return cr_drill(vessel)
    if call == CR_IN:
        return cr_in(vessel, numbers[0])
    return cr_hours(vessel, numbers[0])


def tell(vessel, call):
    if call == CR_WHERE:
        return cr_where(vessel)
    return cr_ready(vessel)
