"""The ship with all that changes can touch."""


class Vessel:
    def __init__(self, way, people, tanks, stores):
        self.way = way
        self.people = people
        self.tanks = tanks
        self.stores = stores

    def twin(self):
        return Vessel(self.way.twin(), self.people.twin(), self.tanks.twin(), self.stores.twin())
