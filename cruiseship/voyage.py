"""The one object that calls are made on: the ship, and what can be taken back or done again."""

from cruiseship.bounds import outside
from cruiseship.calls import CR_AGAIN, CR_BACK, CR_START, CR_STATE, change, is_change, tell
from cruiseship.people import People
from cruiseship.refusals import NONE_THERE, NOT_AS_TOLD
from cruiseship.stores import Stores
from cruiseship.tanks import Tanks
from cruiseship.vessel import Vessel
from cruiseship.way import Way, today

MOST_TAKEN_BACK = 20
MOST_LITRES = 10000000
MOST_ROOM = 1000000000


# The past holds the ship as it was before each of the last changes, the undone as it was
# after each that was taken back; none of these ships is ever changed again.
class Voyage:
    def __init__(self):
        self.vessel = None
        self.past = []
        self.undone = []


def cr_start(voyage, most, uses, fresh, makes, grey, black, room, last):
    if outside(most, 1, 16) or uses > 80:
        return [NOT_AS_TOLD]
    if any([outside(litres, 1, MOST_LITRES) for litres in (fresh, makes, grey, black)]):
        return [NOT_AS_TOLD]
    if outside(room, 1, MOST_ROOM) or outside(last, 1, 60):
        return [NOT_AS_TOLD]
    tanks = Tanks(uses, fresh, makes, grey, black)
    voyage.vessel = Vessel(Way(last), People(most), tanks, Stores(room))
    voyage.past = []
    voyage.undone = []
    return [0]


# The change is made on a copy, so that a refusal leaves all as it was, and the ship as it
# was before can be taken back to.
def try_change(voyage, call, numbers):
    changed = voyage.vessel.twin()
    answer = change(changed, call, numbers)
    if answer[0] >= 0:
        keep_past(voyage)
        voyage.vessel = changed
    return answer


def keep_past(voyage):
    voyage.past.append(voyage.vessel)
    if len(voyage.past) > MOST_TAKEN_BACK:
        voyage.past.pop(0)
    voyage.undone = []


def cr_back(voyage):
    if len(voyage.past) == 0:
        return [NONE_THERE]
    voyage.undone.append(voyage.vessel)
    voyage.vessel = voyage.past.pop()
    return [len(voyage.past)]


def cr_again(voyage):
    if len(voyage.undone) == 0:
        return [NONE_THERE]
    voyage.past.append(voyage.vessel)
    voyage.vessel = voyage.undone.pop()
    return [len(voyage.undone)]


def cr_state(voyage):
    vessel = voyage.vessel
    way = vessel.way
    counts = [len(way.legs), len(vessel.stores.goods), len(vessel.people.parties)]
    return [way.hour, today(way)] + counts + [len(voyage.past), len(voyage.undone)]


def answer_call(voyage, call, numbers):
    if call == CR_START:
        return cr_start(voyage, numbers[0], numbers[1], numbers[2], numbers[3],
                        numbers[4], numbers[5], numbers[6], numbers[7])
    if is_change(call):
        return try_change(voyage, call, numbers)
    if call == CR_BACK:
        return cr_back(voyage)
    if call == CR_AGAIN:
        return cr_again(voyage)
    if call == CR_STATE:
        return cr_state(voyage)
    return tell(voyage.vessel, call, numbers)
