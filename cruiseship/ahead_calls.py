"""The calls that look ahead: how long stores and water last, where hours would lead."""

from cruiseship.bits import as_bits
from cruiseship.hour_calls import cr_hours
from cruiseship.people import count_aboard
from cruiseship.refusals import NONE_THERE, NOT_AS_TOLD, NOT_FITTING
from cruiseship.stores import good_is_there, good_to_if_loaded, lacks_up_to
from cruiseship.tanks import water_hour
from cruiseship.way import knots_at, miles_at, next_port_day, today

MOST_HOURS_AHEAD = 500


def lacks_before_port(vessel, good):
    aboard = count_aboard(vessel.people)
    return lacks_up_to(good, aboard, today(vessel.way), next_port_day(vessel.way))


# What is loaded now is eaten last, so it takes the place of just what would lack, as long as
# it is still good on the last of these days. No lot that is there is good for longer.
def cr_least(vessel, g):
    if not good_is_there(vessel.stores, g):
        return [NONE_THERE]
    good = vessel.stores.goods[g]
    port_day = next_port_day(vessel.way)
    lacks = lacks_before_port(vessel, good)
    if lacks > 0 and good_to_if_loaded(good, today(vessel.way)) < port_day - 1:
        return [NOT_FITTING]
    return [lacks, port_day]


def cr_short(vessel):
    goods = vessel.stores.goods
    short = [number for number, good in enumerate(goods) if lacks_before_port(vessel, good) > 0]
    return [len(short), as_bits(short)]


# By the legs as they are: unlike in hours that go by, nobody keeps the ship in port.
def cr_lasts(vessel):
    way = vessel.way
    tanks = vessel.tanks.twin()
    aboard = count_aboard(vessel.people)
    for hours in range(MOST_HOURS_AHEAD):
        hour = way.hour + hours
        if water_hour(tanks, miles_at(way, hour), knots_at(way, hour), aboard) > 0:
            return [hours]
    return [MOST_HOURS_AHEAD]


def cr_ahead(vessel, n):
    ahead = vessel.twin()
    gone_by = cr_hours(ahead, n)
    if gone_by[0] < 0:
        return [NOT_AS_TOLD]
    return [ahead.tanks.fresh, gone_by[1], gone_by[3], gone_by[2]]
