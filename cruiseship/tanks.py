"""The three tanks, and what is set about them."""


class Tanks:
    def __init__(self, uses, fresh_most, makes, grey_most, black_most):
        self.uses = uses
        self.fresh_most = fresh_most
        self.makes = makes
        self.grey_most = grey_most
        self.black_most = black_most
        self.fresh = fresh_most
        self.grey = 0
        self.black = 0
        self.making = 0
        self.grey_goes = 0
        self.black_goes = 0
        self.taken_in = 0
        self.used = 0

    def twin(self):
        other = Tanks(self.uses, self.fresh_most, self.makes, self.grey_most, self.black_most)
        other.fresh = self.fresh
        other.grey = self.grey
        other.black = self.black
        other.making = self.making
        other.grey_goes = self.grey_goes
        other.black_goes = self.black_goes
        other.taken_in = self.taken_in
        other.used = self.used
        return other


def fresh_room(tanks):
    return tanks.fresh_most - tanks.fresh


def take_in(tanks, litres):
    tanks.fresh += litres
    tanks.taken_in += litres


def let_go(tanks, miles, knots):
    if tanks.grey_goes == 1 and miles >= 4 and knots >= 6:
        tanks.grey = 0
    if tanks.black_goes == 1 and miles >= 12 and knots >= 4:
        tanks.black = 0


def make(tanks, miles):
    if tanks.making == 1 and miles >= 12:
        take_in(tanks, min(tanks.makes, fresh_room(tanks)))


def grey_of(used):
    return used * 9 // 10


# Nine tenths are rounded down to grey, so black is a tenth rounded up: the most that leaves
# grey_of(used) <= grey room is (10 * room + 9) // 9, that for black is ten times its room.
def usable(tanks):
    grey_room = tanks.grey_most - tanks.grey
    black_room = tanks.black_most - tanks.black
    return min(tanks.fresh, (grey_room * 10 + 9) // 9, black_room * 10)


# Answers how much of the wanted water lacks.
def use(tanks, wanted):
    used = min(wanted, usable(tanks))
    tanks.fresh -= used
    tanks.used += used
    tanks.grey += grey_of(used)
    tanks.black += used - grey_of(used)
    return wanted - used


def wanted_an_hour(tanks, aboard):
    return aboard * tanks.uses


def water_hour(tanks, miles, knots, aboard):
    let_go(tanks, miles, knots)
    make(tanks, miles)
    return use(tanks, wanted_an_hour(tanks, aboard))
