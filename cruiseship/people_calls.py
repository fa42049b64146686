"""The calls about parties and persons: coming aboard, leaving, the gate, the drill."""

from cruiseship.bounds import outside
from cruiseship.people import ABOARD, ASHORE, GONE, NO_CABIN
from cruiseship.people import add_party, begin_drill, best_cabin, count_aboard
from cruiseship.people import first_of_party, members, party_is_there, person_is_there, searched_for
from cruiseship.refusals import NO_DRILL, NO_ROOM, NONE_THERE, NOT_AS_TOLD, NOT_FITTING, NOT_NOW
from cruiseship.refusals import SO_ALREADY, TOO_MANY
from cruiseship.way import is_at_sea

MOST_PARTIES = 8
MOST_PERSONS = 16
MOST_SHOWN = 100000
MOST_DRILLS = 1000
MINUTES_AN_HOUR = 60


def cr_board(vessel, many, children, rank, flat):
    people = vessel.people
    if outside(many, 1, 6) or children >= many or rank > 3 or flat > 1:
        return [NOT_AS_TOLD]
    if is_at_sea(vessel.way):
        return [NOT_NOW]
    if len(people.parties) == MOST_PARTIES or len(people.persons) + many > MOST_PERSONS:
        return [TOO_MANY]
    if count_aboard(people) + many > people.most:
        return [NO_ROOM]
    cabin = best_cabin(people, many, rank, flat)
    if cabin == NO_CABIN:
        return [NOT_FITTING]
    first = len(people.persons)
    return [add_party(people, many, children, cabin), cabin, first, first]


def cr_leave(vessel, party):
    people = vessel.people
    if not party_is_there(people, party):
        return [NONE_THERE]
    leaving = members(people.parties[party])
    if any([people.standing[person] == ABOARD for person in leaving]):
        return [NOT_NOW]
    for person in leaving:
        people.standing[person] = GONE
    return [len(leaving)]


def cr_gate(vessel, opened):
    people = vessel.people
    if opened > 1:
        return [NOT_AS_TOLD]
    if opened == 1 and is_at_sea(vessel.way):
        return [NOT_NOW]
    if people.gate == opened:
        return [SO_ALREADY]
    before = people.gate
    people.gate = opened
    return [before]


def cr_scan(vessel, card):
    people = vessel.people
    if people.gate == 0:
        return [NOT_NOW]
    if MOST_SHOWN in (people.gone_out, people.come_in, people.not_counted):
        return [TOO_MANY]
    if not person_is_there(people, card):
        people.not_counted += 1
        return [2, 0]
    if people.standing[card] == ASHORE:
        return come_aboard(people, card)
    return go_ashore(people, card)


def come_aboard(people, person):
    if count_aboard(people) >= people.most:
        return [NO_ROOM]
    people.standing[person] = ABOARD
    people.come_in += 1
    return [1, person]


def go_ashore(people, person):
    if people.persons[person].child and people.standing[first_of_party(people, person)] != ASHORE:
        return [NOT_FITTING]
    people.standing[person] = ASHORE
    people.gone_out += 1
    return [0, person]


def cr_drill(vessel):
    people = vessel.people
    if people.drill == MOST_DRILLS:
        return [TOO_MANY]
    begin_drill(people)
    return [people.drill]


def cr_in(vessel, p):
    people = vessel.people
    minute = vessel.way.hour * MINUTES_AN_HOUR
    if not person_is_there(people, p):
        return [NONE_THERE]
    if people.standing[p] == ASHORE:
        return [NOT_NOW]
    if people.drill == 0:
        return [NO_DRILL]
    if people.minutes[p] >= minute:
        return [SO_ALREADY]
    people.minutes[p] = minute
    return [len(searched_for(people))]
