"""The way: legs one behind another from hour 0 on, and the hour it is."""

HOURS_A_DAY = 24
NO_LEG = -1


# A leg is never changed, only replaced, so that copies of a way may share it.
class Leg:
    def __init__(self, hours, miles, knots):
        self.hours = hours
        self.miles = miles
        self.knots = knots


class Way:
    def __init__(self, last_day):
        self.last_day = last_day
        self.hour = 0
        self.later = 0
        self.legs = []

    def twin(self):
        other = Way(self.last_day)
        other.hour = self.hour
        other.later = self.later
        other.legs = list(self.legs)
        return other


def way_end(way):
    return sum([leg.hours for leg in way.legs])


# Days are numbered from 0, so the last day's number is one less than the days there are.
def voyage_end(way):
    return (way.last_day + 1) * HOURS_A_DAY


def today(way):
    return way.hour // HOURS_A_DAY


def leg_at(way, hour):
    end = 0
    for number, leg in enumerate(way.legs):
        end += leg.hours
        if hour < end:
            return number
    return NO_LEG


def miles_at(way, hour):
    number = leg_at(way, hour)
    return 0 if number == NO_LEG else way.legs[number].miles


def knots_at(way, hour):
    number = leg_at(way, hour)
    return 0 if number == NO_LEG else way.legs[number].knots


def is_at_sea(way):
    return miles_at(way, way.hour) > 0


def is_leaving(way):
    return not is_at_sea(way) and miles_at(way, way.hour + 1) > 0


# The first hour in port from the given one on; behind the last leg there is always one.
def port_hour_from(way, hour):
    begin = 0
    for leg in way.legs:
        end = begin + leg.hours
        if leg.miles == 0 and end > hour:
            return max(begin, hour)
        begin = end
    return max(begin, hour)


# A day behind the last one is none of the voyage's, in port or not.
def next_port_day(way):
    tomorrow = (today(way) + 1) * HOURS_A_DAY
    return min(port_hour_from(way, tomorrow) // HOURS_A_DAY, way.last_day + 1)


def stay_an_hour_more(way):
    number = leg_at(way, way.hour)
    leg = way.legs[number]
    way.legs[number] = Leg(leg.hours + 1, leg.miles, leg.knots)
    way.later += 1
