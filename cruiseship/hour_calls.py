"""The call that lets hours go by."""

from cruiseship.bounds import outside
from cruiseship.people import count_aboard, may_leave
from cruiseship.refusals import NOT_AS_TOLD, TOO_LATE
from cruiseship.stores import end_day
from cruiseship.tanks import water_hour
from cruiseship.way import HOURS_A_DAY, is_at_sea, is_leaving, knots_at, miles_at
from cruiseship.way import stay_an_hour_more, today, voyage_end

MOST_HOURS = 240


# Answers how much water lacks in the hour.
def pass_hour(vessel):
    way = vessel.way
    aboard = count_aboard(vessel.people)
    if is_leaving(way) and not may_leave(vessel.people):
        stay_an_hour_more(way)
    lacks = water_hour(vessel.tanks, miles_at(way, way.hour), knots_at(way, way.hour), aboard)
    way.hour += 1
    if way.hour % HOURS_A_DAY == 0:
        end_day(vessel.stores, aboard, today(way))
    return lacks


def cr_hours(vessel, n):
    way = vessel.way
    if outside(n, 1, MOST_HOURS):
        return [NOT_AS_TOLD]
    if way.hour + n > voyage_end(way):
        return [TOO_LATE]
    later_before = way.later
    lacks = 0
    for each in range(n):
        lacks += pass_hour(vessel)
    return [way.hour, way.later - later_before, lacks, 0 if is_at_sea(way) else 1]
