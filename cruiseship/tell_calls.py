"""The calls that only tell."""

from cruiseship.people import count_missing, may_leave
from cruiseship.way import is_at_sea, is_leaving, knots_at, miles_at, way_end


def cr_where(vessel):
    way = vessel.way
    in_port = 0 if is_at_sea(way) else 1
    leaving = 1 if is_leaving(way) else 0
    return [miles_at(way, way.hour), knots_at(way, way.hour), in_port, leaving, way_end(way)]


def cr_ready(vessel):
    people = vessel.people
    ready = 1 if may_leave(people) else 0
    return [ready, count_missing(people), people.gate, vessel.way.later]
