"""Goods, and the lots of them that are in the stores."""


# A lot is never changed, only replaced, so that copies of a good may share it.
class Lot:
    def __init__(self, good_to, units):
        self.good_to = good_to
        self.units = units


# The lots of a good stand in the order in which they spoil: each is loaded on a later day
# than the one before it, and all are good for as many days.
class Good:
    def __init__(self, per, life):
        self.per = per
        self.life = life
        self.lots = []
        self.loaded = 0
        self.eaten = 0
        self.spoilt = 0
        self.lacked = 0

    def twin(self):
        other = Good(self.per, self.life)
        other.lots = list(self.lots)
        other.loaded = self.loaded
        other.eaten = self.eaten
        other.spoilt = self.spoilt
        other.lacked = self.lacked
        return other


class Stores:
    def __init__(self, room):
        self.room = room
        self.goods = []

    def twin(self):
        other = Stores(self.room)
        other.goods = [good.twin() for good in self.goods]
        return other


def units_of(good):
    return sum([lot.units for lot in good.lots])


def units_in_all(stores):
    return sum([units_of(good) for good in stores.goods])


def loaded_in_all(stores):
    return sum([good.loaded for good in stores.goods])


def good_is_there(stores, number):
    return number < len(stores.goods)


def good_to_if_loaded(good, day):
    return day + good.life


def has_lot(good, good_to):
    return any([lot.good_to == good_to for lot in good.lots])


def add_units(good, good_to, units):
    good.loaded += units
    together = units
    if has_lot(good, good_to):
        newest = good.lots.pop()
        together += newest.units
    good.lots.append(Lot(good_to, together))


def eat(good, wanted):
    left = wanted
    kept = []
    for lot in good.lots:
        taken = min(left, lot.units)
        left -= taken
        if taken < lot.units:
            kept.append(Lot(lot.good_to, lot.units - taken))
    good.lots = kept
    good.eaten += wanted - left
    good.lacked += left


def spoil(good, day):
    good.spoilt += sum([lot.units for lot in good.lots if lot.good_to < day])
    good.lots = [lot for lot in good.lots if lot.good_to >= day]


# What would lack at the ends of the days from one up to another, without that other.
def lacks_up_to(good, aboard, day, other_day):
    ahead = good.twin()
    for each in range(day, other_day):
        eat(ahead, good.per * aboard)
        spoil(ahead, each + 1)
    return ahead.lacked - good.lacked


def end_day(stores, aboard, new_day):
    for good in stores.goods:
        eat(good, good.per * aboard)
        spoil(good, new_day)
