"""Cabins, parties and persons, the gate, and the drill."""

ABOARD = 0
ASHORE = 1
GONE = 2
NO_CABIN = -1
NOT_IN = -1


# Cabins, parties and persons are never changed, so that copies of the people may share them;
# what changes of a person lies in the lists of the people.
class Cabin:
    def __init__(self, deck, place, rank, berths, flat):
        self.deck = deck
        self.place = place
        self.rank = rank
        self.berths = berths
        self.flat = flat


class Party:
    def __init__(self, first, many, cabin):
        self.first = first
        self.many = many
        self.cabin = cabin


class Person:
    def __init__(self, party, child):
        self.party = party
        self.child = child


class People:
    def __init__(self, most):
        self.most = most
        self.cabins = []
        self.parties = []
        self.persons = []
        self.standing = []
        self.minutes = []
        self.gate = 0
        self.drill = 0
        self.gone_out = 0
        self.come_in = 0
        self.not_counted = 0

    def twin(self):
        other = People(self.most)
        other.cabins = list(self.cabins)
        other.parties = list(self.parties)
        other.persons = list(self.persons)
        other.standing = list(self.standing)
        other.minutes = list(self.minutes)
        other.gate = self.gate
        other.drill = self.drill
        other.gone_out = self.gone_out
        other.come_in = self.come_in
        other.not_counted = self.not_counted
        return other


def count_aboard(people):
    return people.standing.count(ABOARD)


def those_who_are(people, standing):
    return [person for person, now in enumerate(people.standing) if now == standing]


def may_leave(people):
    return ASHORE not in people.standing and people.gate == 0


def person_is_there(people, person):
    return person < len(people.persons) and people.standing[person] != GONE


# A party goes as a whole, so its first person tells whether it is gone.
def party_is_there(people, party):
    return party < len(people.parties) and person_is_there(people, people.parties[party].first)


def members(party):
    return list(range(party.first, party.first + party.many))


def first_of_party(people, person):
    party = people.parties[people.persons[person].party]
    return party.first


def is_taken(people, cabin):
    holders = [number for number, party in enumerate(people.parties) if party.cabin == cabin]
    return any([party_is_there(people, number) for number in holders])


def free_cabins(people):
    return [number for number in range(len(people.cabins)) if not is_taken(people, number)]


def does(people, number, many, rank, flat):
    cabin = people.cabins[number]
    fits = cabin.berths >= many and cabin.rank >= rank and cabin.flat >= flat
    return fits and not is_taken(people, number)


# Cabins are walked from the least number on: a later one must be truly better to be taken.
def best_cabin(people, many, rank, flat):
    best = NO_CABIN
    for number, cabin in enumerate(people.cabins):
        if does(people, number, many, rank, flat):
            if best == NO_CABIN or is_nearer(cabin, people.cabins[best]):
                best = number
    return best


def is_nearer(cabin, other):
    if cabin.rank != other.rank:
        return cabin.rank < other.rank
    return cabin.berths < other.berths


def add_party(people, many, children, cabin):
    party = len(people.parties)
    people.parties.append(Party(len(people.persons), many, cabin))
    for place in range(many):
        people.persons.append(Person(party, place >= many - children))
        people.standing.append(ABOARD)
        people.minutes.append(NOT_IN)
    return party


def begin_drill(people):
    people.drill += 1
    people.minutes = [NOT_IN for person in people.persons]


def searched_for(people):
    return [person for person in those_who_are(people, ABOARD) if people.minutes[person] == NOT_IN]
