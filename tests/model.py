"""A second ship, written straight from the document, slow and plain, to hold the program's answers against.

It keeps a list of the hours of the way rather than legs, notes what becomes of each person, tries out how much can
be used or must be loaded rather than reckoning it, and copies itself whole for each change.
"""

import copy

PORT = {"miles": 0, "knots": 0, "leg": None}
PER_CALL = {
    0: 8, 1: 3, 2: 2, 3: 5, 4: 4, 5: 1, 6: 1, 7: 1, 8: 2, 9: 1, 10: 2, 11: 3, 12: 0, 13: 1, 14: 1, 15: 0, 16: 0,
    17: 0, 18: 0, 19: 0, 20: 1, 21: 1, 22: 0, 23: 1, 24: 0, 25: 1, 26: 0, 27: 0, 28: 1, 29: 0, 30: 0, 31: 0, 32: 0,
}
NAMES = ("start leg good cabin board leave gate scan load bunker ashore set drill in hours where ready aboard missing "
         "search who party cabins least short stock water lasts ahead sums back again state").split()


class Refused(Exception):
    pass


def refuse_if(due, code):
    if due:
        raise Refused(code)


def bits(numbers):
    told = 0
    for number in numbers:
        told |= 1 << number
    return told


class State:
    def __init__(self, most, uses, fresh, makes, grey, black, room, last):
        self.most, self.uses, self.makes, self.room, self.last = most, uses, makes, room, last
        self.holds = {"fresh": fresh, "grey": grey, "black": black}
        self.tank = {"fresh": fresh, "grey": 0, "black": 0}
        self.set = {"making": 0, "grey": 0, "black": 0}
        self.taken_in = self.used = self.later = self.hour = self.legs = self.drill = self.gate = 0
        self.way = []
        self.goods = []
        self.cabins = []
        self.parties = []
        self.persons = []

    # The way, hour by hour.
    def at(self, hour):
        return self.way[hour] if hour < len(self.way) else PORT

    def at_sea(self):
        return self.at(self.hour)["miles"] > 0

    def day(self):
        return self.hour // 24

    def leaving(self):
        return not self.at_sea() and self.at(self.hour + 1)["miles"] > 0

    # The people.
    def those(self, place):
        return [person["number"] for person in self.persons if person["place"] == place]

    def alive(self, number):
        return number < len(self.persons) and self.persons[number]["place"] != "gone"

    def searched(self):
        return [number for number in self.those("aboard") if self.persons[number]["in"] is None]

    def has(self, cabin):
        return [party for party in self.parties if not party["gone"] and party["cabin"] == cabin]

    def there_is_party(self, number):
        return number < len(self.parties) and not self.parties[number]["gone"]

    # One hour, with the legs as they become.
    def pass_hour(self):
        if self.leaving() and (self.those("ashore") or self.gate):
            self.way.insert(self.hour, dict(self.at(self.hour)))
            self.later += 1
        lacks = self.water()
        self.hour += 1
        if self.hour % 24 == 0:
            for good in self.goods:
                good["eaten"], good["lacked"], spoilt = self.eat(
                    good, good["lots"], len(self.those("aboard")), self.day(), good["eaten"], good["lacked"])
                good["spoilt"] += spoilt
        return lacks

    def water(self):
        here = self.at(self.hour)
        if self.set["grey"] and here["miles"] >= 4 and here["knots"] >= 6:
            self.tank["grey"] = 0
        if self.set["black"] and here["miles"] >= 12 and here["knots"] >= 4:
            self.tank["black"] = 0
        if self.set["making"] and here["miles"] >= 12:
            made = min(self.makes, self.holds["fresh"] - self.tank["fresh"])
            self.tank["fresh"] += made
            self.taken_in += made
        wanted = self.uses * len(self.those("aboard"))
        used = wanted
        while not self.can_use(used):
            used -= 1
        self.tank["fresh"] -= used
        self.tank["grey"] += used * 9 // 10
        self.tank["black"] += used - used * 9 // 10
        self.used += used
        return wanted - used

    def can_use(self, used):
        grey = self.tank["grey"] + used * 9 // 10
        black = self.tank["black"] + used - used * 9 // 10
        return used <= self.tank["fresh"] and grey <= self.holds["grey"] and black <= self.holds["black"]

    # The lots are a dict from the day up to which they are good to how much.
    def eat(self, good, lots, aboard, new_day, eaten, lacked):
        for unit in range(aboard * good["per"]):
            left = [day for day in lots if lots[day] > 0]
            if left:
                lots[min(left)] -= 1
                eaten += 1
            else:
                lacked += 1
        spoilt = 0
        for day in list(lots):
            if day < new_day:
                spoilt += lots[day]
            if day < new_day or lots[day] == 0:
                del lots[day]
        return eaten, lacked, spoilt

    def port_day(self):
        for day in range(self.day() + 1, self.last + 1):
            if any(self.at(hour)["miles"] == 0 for hour in range(24 * day, 24 * day + 24)):
                return day
        return self.last + 1

    # What would lack of a good before the next port day with so much more loaded today.
    def lack(self, good, more):
        lots = dict(good["lots"])
        if more:
            best = self.day() + good["life"]
            lots[best] = lots.get(best, 0) + more
        lacked = 0
        for day in range(self.day(), self.port_day()):
            lacked += self.eat(good, lots, len(self.those("aboard")), day + 1, 0, 0)[1]
        return lacked

    def do_leg(self, hours, miles, knots):
        refuse_if(miles > 0 and len(self.way) <= self.hour, -16)
        refuse_if(not 1 <= hours <= 500 or miles > 1000 or knots > 40, -22)
        refuse_if(self.legs >= 10, -28)
        refuse_if(self.hour > len(self.way), -16)
        self.way += [{"miles": miles, "knots": knots, "leg": self.legs}] * hours
        self.legs += 1
        return [len(self.way)]

    def do_good(self, per, life):
        refuse_if(not 1 <= per <= 1000 or not 1 <= life <= 100, -22)
        refuse_if(len(self.goods) >= 6, -28)
        self.goods.append({"per": per, "life": life, "lots": {}, "eaten": 0, "spoilt": 0, "lacked": 0, "loaded": 0})
        return [len(self.goods) - 1]

    def do_cabin(self, deck, place, rank, berths, flat):
        refuse_if(deck > 20 or place > 500 or rank > 3 or not 1 <= berths <= 6 or flat > 1, -22)
        refuse_if((deck, place) in [cabin["where"] for cabin in self.cabins], -22)
        refuse_if(len(self.cabins) >= 12, -28)
        self.cabins.append({"where": (deck, place), "rank": rank, "berths": berths, "flat": flat})
        return [len(self.cabins) - 1]

    def do_board(self, many, children, rank, flat):
        refuse_if(not 1 <= many <= 6 or children >= many or rank > 3 or flat > 1, -22)
        refuse_if(self.at_sea(), -16)
        refuse_if(len(self.parties) >= 8 or len(self.persons) + many > 16, -28)
        refuse_if(len(self.those("aboard")) + many > self.most, -62)
        do = [(cabin["rank"], cabin["berths"], number) for number, cabin in enumerate(self.cabins)
              if not self.has(number) and cabin["berths"] >= many and cabin["rank"] >= rank
              and (cabin["flat"] or not flat)]
        refuse_if(not do, -33)
        first = len(self.persons)
        self.parties.append({"cabin": min(do)[2], "gone": False, "persons": list(range(first, first + many))})
        for number in range(many):
            self.persons.append({"number": first + number, "party": len(self.parties) - 1, "first": first,
                                 "child": number >= many - children, "place": "aboard", "in": None})
        return [len(self.parties) - 1, min(do)[2], first, first]

    def do_leave(self, party):
        refuse_if(not self.there_is_party(party), -2)
        persons = [self.persons[number] for number in self.parties[party]["persons"]]
        refuse_if("aboard" in [person["place"] for person in persons], -16)
        for person in persons:
            person["place"] = "gone"
        self.parties[party]["gone"] = True
        return [len(persons)]

    def do_gate(self, opened):
        refuse_if(opened > 1, -22)
        refuse_if(opened and self.at_sea(), -16)
        refuse_if(opened == self.gate, -17)
        self.gate = opened
        return [1 - opened]

    def do_scan(self, card):
        refuse_if(not self.gate, -16)
        if not self.alive(card):
            return [2, 0]
        person = self.persons[card]
        if person["place"] == "ashore":
            refuse_if(len(self.those("aboard")) == self.most, -62)
            person["place"] = "aboard"
            return [1, card]
        refuse_if(person["child"] and self.persons[person["first"]]["place"] != "ashore", -33)
        person["place"] = "ashore"
        return [0, card]

    def do_load(self, g, n):
        refuse_if(g >= len(self.goods), -2)
        refuse_if(n == 0, -22)
        refuse_if(self.at_sea(), -16)
        good = self.goods[g]
        refuse_if(sum(sum(each["lots"].values()) for each in self.goods) + n > self.room, -62)
        refuse_if(good["loaded"] + n > 10 ** 9 or sum(each["loaded"] for each in self.goods) + n > 2 * 10 ** 9, -62)
        best = self.day() + good["life"]
        refuse_if(len(good["lots"]) == 6 and best not in good["lots"], -28)
        good["lots"][best] = good["lots"].get(best, 0) + n
        good["loaded"] += n
        return [sum(good["lots"].values()), best]

    def do_bunker(self, n):
        refuse_if(n == 0, -22)
        refuse_if(self.at_sea(), -16)
        refuse_if(self.tank["fresh"] + n > self.holds["fresh"], -62)
        refuse_if(self.taken_in + n > 10 ** 9, -28)
        self.tank["fresh"] += n
        self.taken_in += n
        return [self.tank["fresh"]]

    def do_ashore(self, grey, black):
        refuse_if(grey + black == 0, -22)
        refuse_if(self.at_sea(), -16)
        refuse_if(grey > self.tank["grey"] or black > self.tank["black"], -12)
        self.tank["grey"] -= grey
        self.tank["black"] -= black
        return [self.tank["grey"], self.tank["black"]]

    def do_set(self, making, grey, black):
        refuse_if(max(making, grey, black) > 1, -22)
        new = {"making": making, "grey": grey, "black": black}
        refuse_if(new == self.set, -17)
        old, self.set = self.set, new
        return [old["making"] + 2 * old["grey"] + 4 * old["black"]]

    def do_drill(self):
        refuse_if(self.drill >= 1000, -28)
        self.drill += 1
        for person in self.persons:
            person["in"] = None
        return [self.drill]

    def do_in(self, p):
        refuse_if(not self.alive(p), -2)
        refuse_if(self.persons[p]["place"] == "ashore", -16)
        refuse_if(self.drill == 0, -6)
        was = self.persons[p]["in"]
        refuse_if(was is not None and was >= 60 * self.hour, -17)
        self.persons[p]["in"] = 60 * self.hour
        return [len(self.searched())]

    def do_hours(self, n):
        refuse_if(not 1 <= n <= 240, -22)
        refuse_if(self.hour + n > 24 * (self.last + 1), -75)
        later = self.later
        lacks = sum([self.pass_hour() for hour in range(n)])
        return [self.hour, self.later - later, lacks, int(not self.at_sea())]

    def do_where(self):
        here = self.at(self.hour)
        return [here["miles"], here["knots"], int(not self.at_sea()), int(self.leaving()), len(self.way)]

    def do_ready(self):
        missing = len(self.those("ashore"))
        return [int(not missing and not self.gate), missing, self.gate, self.later]

    def do_aboard(self):
        aboard = self.those("aboard")
        return [len(aboard), bits(aboard), self.most - len(aboard)]

    def do_missing(self):
        return [len(self.those("ashore")), bits(self.those("ashore"))]

    def do_search(self):
        refuse_if(self.drill == 0, -6)
        return [len(self.searched()), bits(self.searched()), self.drill]

    def do_who(self, card):
        refuse_if(not self.alive(card), -2)
        person = self.persons[card]
        return [card, person["party"], int(person["place"] == "ashore")]

    def do_party(self, p):
        refuse_if(not self.there_is_party(p), -2)
        party = self.parties[p]
        return [len(party["persons"]), bits(party["persons"]), party["cabin"]]

    def do_cabins(self):
        free = [number for number in range(len(self.cabins)) if not self.has(number)]
        return [len(free), bits(free), len(self.cabins), len([1 for party in self.parties if not party["gone"]])]

    # Past the most that could be eaten on the voyage, more doesn't help.
    def do_least(self, g):
        refuse_if(g >= len(self.goods), -2)
        good = self.goods[g]
        more = 0
        most = good["per"] * 16 * 61
        refuse_if(self.lack(good, most) > 0, -33)
        while self.lack(good, more) > 0:
            more += self.lack(good, more)
        while more > 0 and self.lack(good, more - 1) == 0:
            more -= 1
        return [more, self.port_day()]

    def do_short(self):
        short = [number for number, good in enumerate(self.goods) if self.lack(good, 0) > 0]
        return [len(short), bits(short)]

    def do_stock(self, g):
        refuse_if(g >= len(self.goods), -2)
        good = self.goods[g]
        return [sum(good["lots"].values()), good["eaten"], good["spoilt"], good["lacked"]]

    def do_water(self):
        return [self.tank["fresh"], self.tank["grey"], self.tank["black"], len(self.those("aboard")) * self.uses]

    def do_lasts(self):
        ahead = copy.deepcopy(self)
        for hours in range(500):
            if ahead.water() > 0:
                return [hours]
            ahead.hour += 1
        return [500]

    def do_ahead(self, n):
        refuse_if(not 1 <= n <= 240 or self.hour + n > 24 * (self.last + 1), -22)
        ahead = copy.deepcopy(self)
        lacks = sum([ahead.pass_hour() for hour in range(n)])
        return [ahead.tank["fresh"], ahead.later - self.later, int(not ahead.at_sea()), lacks]

    def do_sums(self):
        loaded = sum(good["loaded"] for good in self.goods)
        return [len(self.persons), len(self.those("gone")), self.taken_in, self.used, loaded, self.later]


class Model:
    def __init__(self):
        self.states = []
        self.now = 0

    def call(self, name, numbers):
        try:
            if hasattr(self, "do_" + name):
                return getattr(self, "do_" + name)(*numbers)
            return self.on(name, numbers)
        except Refused as refused:
            return [refused.args[0]]

    # All states from the oldest that can be gone back to, up to the newest that can be gone on to.
    def on(self, name, numbers):
        state = copy.deepcopy(self.states[self.now])
        answer = getattr(state, "do_" + name)(*numbers)
        if 1 <= NAMES.index(name) <= 14:
            self.states = [*self.states[:self.now + 1], state][-21:]
            self.now = len(self.states) - 1
        return answer

    def do_start(self, *numbers):
        most, uses, fresh, makes, grey, black, room, last = numbers
        refuse_if(not 1 <= most <= 16 or uses > 80 or not 1 <= room <= 10 ** 9 or not 1 <= last <= 60, -22)
        refuse_if([litres for litres in (fresh, makes, grey, black) if not 1 <= litres <= 10 ** 7], -22)
        self.states = [State(*numbers)]
        self.now = 0
        return [0]

    def do_back(self):
        refuse_if(self.now == 0, -2)
        self.now -= 1
        return [self.now]

    def do_again(self):
        refuse_if(self.now == len(self.states) - 1, -2)
        self.now += 1
        return [len(self.states) - 1 - self.now]

    def do_state(self):
        state = self.states[self.now]
        return [state.hour, state.day(), state.legs, len(state.goods), len(state.parties), self.now,
                len(self.states) - 1 - self.now]


def model_answers(calls):
    model = Model()
    answered = []
    at = 0
    while at < len(calls):
        behind = at + 1 + PER_CALL[calls[at]]
        answer = model.call(NAMES[calls[at]], calls[at + 1:behind])
        answered += [len(answer), *answer]
        at = behind
    return answered
