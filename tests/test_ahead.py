import random

from tests.line import AT_SEA, BIG, NONE, UNFIT, WRONG, LineCase, cabins, play, start

THREE = [*cabins(2), ("board", 3, 0, 0, 0)]
OUT = [("gate", 1), ("scan", 0), ("scan", 1), ("scan", 2), ("gate", 0)]


class NextPortDay(LineCase):
    # Nobody is aboard, so that nothing lacks, however far the day is.
    def port_day(self, calls, hours=0, last=60):
        while hours > 0:
            calls = [*calls, ("hours", min(hours, 240))]
            hours -= 240
        before = [start(last=last), ("good", 1, 1), *calls]
        self.led_up(before)
        lacks, day = self.last([*before, ("least", 0)])
        self.assertEqual(lacks, 0)
        return day

    def test_without_legs(self):
        for hours, day in [(0, 1), (1, 1), (23, 1), (24, 2), (47, 2), (48, 3)]:
            self.assertEqual(self.port_day([], hours), day)

    def test_today_in_port_and_behind_today(self):
        way = [("leg", 60, 0, 0)]
        for hours, day in [(0, 1), (23, 1), (24, 2), (59, 3), (60, 3)]:
            self.assertEqual(self.port_day(way, hours), day)

    def test_the_first_hour_in_port_decides(self):
        for sea, day in [(1, 1), (22, 1), (23, 1), (46, 1), (47, 2), (70, 2), (71, 3), (94, 3), (95, 4)]:
            self.assertEqual(self.port_day([("leg", 1, 0, 0), ("leg", sea, 9, 9)]), day, sea)
        for sea, day in [(1, 20), (22, 21), (23, 1), (46, 1), (47, 2), (70, 2), (71, 3), (94, 3), (95, 4)]:
            way = [("leg", 1, 0, 0), ("leg", sea, 9, 9), ("leg", 1, 0, 0), ("leg", 500, 9, 9)]
            self.assertEqual(self.port_day(way), day, sea)

    def test_in_the_midst_of_a_leg(self):
        way = [("leg", 1, 0, 0), ("leg", 9, 5, 5), ("leg", 100, 0, 0), ("leg", 100, 5, 5)]
        for hours, day in [(0, 1), (5, 1), (23, 1), (24, 2), (72, 4), (95, 4), (96, 8), (105, 8), (109, 8), (110, 8),
                           (150, 8), (191, 8), (192, 9), (209, 9), (216, 10)]:
            self.assertEqual(self.port_day(way, hours), day, hours)

    def test_one_hour_is_enough(self):
        way = [("leg", 1, 0, 0), ("leg", 29, 1, 0), ("leg", 1, 0, 0), ("leg", 500, 1, 0), ("leg", 500, 1, 0)]
        self.assertEqual(self.port_day(way), 1)
        self.assertEqual(self.port_day(way, 23), 1)
        self.assertEqual(self.port_day(way, 24), 42)
        self.assertEqual(self.port_day(way, 30), 42)

    def test_an_hour_of_today_does_not_count(self):
        way = [("leg", 1, 0, 0), ("leg", 9, 1, 0), ("leg", 14, 0, 0), ("leg", 100, 1, 0)]
        for hours in (0, 5, 10, 22, 23, 24, 123):
            self.assertEqual(self.port_day(way, hours), 5 if hours < 120 else 6, hours)

    def test_only_behind_the_last_leg(self):
        way = [("leg", 1, 0, 0), ("leg", 100, 5, 5)]
        for hours, day in [(0, 4), (50, 4), (95, 4), (96, 5), (100, 5), (101, 5), (120, 6)]:
            self.assertEqual(self.port_day(way, hours), day, hours)

    def test_none_up_to_the_last_day(self):
        for sea, day in [(93, 3), (94, 3), (95, 4), (96, 4), (119, 4), (500, 4)]:
            way = [("leg", 1, 0, 0), ("leg", sea, 5, 5)]
            self.assertEqual(self.port_day(way, last=3), day, sea)
        self.assertEqual(self.port_day([("leg", 1, 0, 0), ("leg", 500, 5, 5)], 60, last=3), 4)

    def test_on_the_last_day_and_at_its_end(self):
        for hours, day in [(71, 3), (72, 4), (95, 4), (96, 4)]:
            self.assertEqual(self.port_day([], hours, last=3), day)
        self.assertEqual(self.port_day([], 1463), 61)
        self.assertEqual(self.port_day([], 1464), 61)

    def test_by_the_legs_as_they_are(self):
        way = [("leg", 1, 0, 0), ("leg", 46, 5, 5), ("gate", 1)]
        self.assertEqual(self.port_day(way), 1)
        self.assertEqual(self.port_day(way, 1), 2)
        self.assertEqual(self.port_day([*way, ("hours", 1), ("gate", 0)], 30), 2)
        self.assertEqual(self.port_day([*way, ("leg", 5, 5, 5)]), 2)


class Least(LineCase):
    # Three persons; the ship is in port again on day 4.
    def ship(self, per=5, life=100):
        return [start(uses=0), ("good", per, life), *THREE, ("leg", 1, 0, 0), ("leg", 100, 20, 20)]

    # In port up to day 2, then on day 6.
    def long_in_port(self, life):
        return [start(uses=0), ("good", 5, life), *THREE, ("leg", 49, 0, 0), ("leg", 100, 20, 20)]

    def test_there_is_none(self):
        self.refused(NONE, [start()], ("least", 0))
        self.refused(NONE, self.ship(), ("least", 1))
        self.refused(NONE, self.ship(), ("least", BIG))
        self.refused(NONE, self.ship(life=1), ("least", 1))

    def test_nothing_aboard(self):
        self.answered([60, 4], self.ship(), ("least", 0))
        self.answered([12000, 4], self.ship(per=1000), ("least", 0))

    def test_something_aboard(self):
        for units, lacks in [(1, 59), (14, 46), (15, 45), (16, 44), (59, 1), (60, 0), (61, 0), (900, 0)]:
            self.answered([lacks, 4], [*self.ship(), ("load", 0, units)], ("least", 0))

    def test_hours_of_today_gone_by(self):
        for hours, lacks in [(1, 60), (23, 60), (24, 45), (47, 45), (95, 15), (96, 15), (101, 15)]:
            day = 4 if hours < 96 else 5
            self.answered([lacks, day], [*self.ship(), ("hours", hours)], ("least", 0))

    def test_each_good_by_itself(self):
        two = [*self.ship(), ("good", 7, 50), ("load", 1, 80)]
        self.answered([60, 4], two, ("least", 0))
        self.answered([4, 4], two, ("least", 1))

    def test_several_lots(self):
        lots = [*self.long_in_port(20), ("load", 0, 20), ("hours", 24), ("load", 0, 17), ("hours", 24), ("load", 0, 4)]
        self.answered([11, 30, 0, 0], lots, ("stock", 0))
        self.answered([49, 6], lots, ("least", 0))

    def test_a_lot_that_spoils_before_it_is_eaten_up(self):
        lots = [*self.long_in_port(3), ("load", 0, 100), ("hours", 48)]
        self.answered([30, 6], lots, ("least", 0))
        self.answered([30, 6], [*self.long_in_port(3), ("load", 0, 60), ("hours", 48)], ("least", 0))
        self.answered([31, 6], [*self.long_in_port(3), ("load", 0, 59), ("hours", 48)], ("least", 0))
        two = [*self.long_in_port(3), ("load", 0, 100), ("hours", 24), ("load", 0, 8), ("hours", 24)]
        self.answered([22, 6], two, ("least", 0))

    def test_a_lot_of_today(self):
        today = [*self.long_in_port(3), ("load", 0, 100), ("hours", 48), ("load", 0, 10)]
        self.answered([20, 6], today, ("least", 0))
        self.answered([20, 6], [*today, ("hours", 1)], ("least", 0))

    def test_not_good_for_long_enough(self):
        self.answered([60, 4], self.ship(life=3), ("least", 0))
        self.refused(UNFIT, self.ship(life=2), ("least", 0))
        self.refused(UNFIT, self.ship(life=1), ("least", 0))
        self.refused(UNFIT, [*self.ship(life=2), ("load", 0, 1000)], ("least", 0))
        self.refused(UNFIT, [*self.ship(life=1), ("hours", 24)], ("least", 0))
        self.answered([30, 4], [*self.ship(life=1), ("hours", 48)], ("least", 0))
        self.refused(UNFIT, [*self.long_in_port(2), ("load", 0, 100), ("hours", 48)], ("least", 0))

    # One unit lacks, on the one day on which nothing is good any more.
    def test_good_for_one_day_too_short(self):
        one = [start(uses=0), ("good", 1, 2), *cabins(1), ("board", 1, 0, 0, 0), ("leg", 1, 0, 0), ("leg", 100, 20, 20),
               ("load", 0, 100)]
        self.refused(UNFIT, one, ("least", 0))
        self.answered([0, 3, 97, 1], [*one, ("hours", 96)], ("stock", 0))

    def test_tomorrow_everything_is_good_enough(self):
        self.answered([15, 1], [start(), ("good", 5, 1), *THREE], ("least", 0))

    def test_the_longest_and_the_most(self):
        before = [start(last=60), ("good", 1000, 60), *cabins(3), ("board", 6, 0, 0, 0), ("board", 6, 0, 0, 0),
                  ("board", 4, 0, 0, 0), ("leg", 1, 0, 0), *[("leg", 500, 1, 0)] * 3]
        self.answered([976000, 61], before, ("least", 0))
        self.refused(UNFIT, [*before, ("good", 1000, 59)], ("least", 1))
        self.answered([976000, 61], [*before, ("good", 1000, 100)], ("least", 1))

    def test_nobody_aboard(self):
        for life in (1, 2, 3, 100):
            nobody = [start(), ("good", 5, life), ("leg", 1, 0, 0), ("leg", 100, 20, 20)]
            self.answered([0, 4], nobody, ("least", 0))
            self.answered([0, 4], [*self.ship(life=life), *OUT], ("least", 0))

    def test_as_many_as_are_aboard_now(self):
        self.answered([40, 4], [*self.ship(), ("gate", 1), ("scan", 1)], ("least", 0))
        self.answered([100, 4], [*self.ship(), ("board", 2, 1, 0, 0)], ("least", 0))

    # It's told how much must be loaded, whether or not there is room for it, and at sea too.
    def test_without_room_and_at_sea(self):
        small = [start(room=10), ("good", 5, 9), *THREE, ("leg", 1, 0, 0), ("leg", 100, 20, 20)]
        self.answered([60, 4], small, ("least", 0))
        self.answered([60, 4], [*small, ("hours", 1)], ("least", 0))

    def test_at_the_end(self):
        end = [start(last=1), ("good", 5, 1), *THREE, ("hours", 24)]
        self.answered([15, 2], end, ("least", 0))
        self.answered([15, 2], [*end, ("hours", 23)], ("least", 0))
        self.answered([0, 2], [*end, ("hours", 24)], ("least", 0))

    # What is told is just enough: with it nothing lacks before that day, with one unit less one does.
    def just_enough(self, before):
        least, day = self.last([*before, ("least", 0)])
        hours = 24 * day - self.last([*before, ("state",)])[0]
        lacked = self.last([*before, ("stock", 0)])[3]
        for more, short in [(least, 0), (least + 1, 0), (least - 1, 1)]:
            if more >= 0:
                load = [("load", 0, more)] if more else []
                after = [*before, *load, ("hours", hours), ("stock", 0)]
                self.assertEqual(self.last(after)[3] - lacked, short, before)
                told = self.last([*before, *load, ("short",)])
                self.assertEqual(told, [short, short], before)

    def test_just_so_much_is_enough(self):
        self.just_enough(self.ship())
        self.just_enough([*self.ship(life=3), ("load", 0, 7)])
        self.just_enough([*self.ship(), ("load", 0, 60)])
        self.just_enough([*self.long_in_port(3), ("load", 0, 100), ("hours", 48)])
        self.just_enough([*self.long_in_port(3), ("load", 0, 100), ("hours", 48), ("load", 0, 10)])
        self.just_enough([*self.long_in_port(4), ("load", 0, 33), ("hours", 24), ("load", 0, 20), ("hours", 24)])

    def test_just_so_much_is_enough_on_random_ways(self):
        dice = random.Random(8)
        tried = 0
        while tried < 60:
            before = [start(uses=0), ("good", dice.randint(1, 30), dice.randint(1, 9)), *THREE,
                      ("leg", 24 * 3 + 2, 0, 0), ("leg", dice.randint(1, 140), 3, 3)]
            for day in range(3):
                before += [("load", 0, dice.randint(1, 200))][:dice.randint(0, 1)] + [("hours", 24)]
            if self.last([*before, ("least", 0)])[0] > 0:
                self.just_enough(before)
                tried += 1


class Short(LineCase):
    # Three persons; the ship is in port again on day 4.
    def ship(self, *goods):
        return [start(uses=0), *[("good", *good) for good in goods], *THREE, ("leg", 1, 0, 0), ("leg", 100, 20, 20)]

    def test_no_goods(self):
        self.answered([0, 0], [start()], ("short",))
        self.answered([0, 0], self.ship(), ("short",))

    def test_all(self):
        self.answered([1, 1], self.ship((1, 9)), ("short",))
        self.answered([6, 63], self.ship(*[(1, 9)] * 6), ("short",))

    def test_none(self):
        six = self.ship(*[(5, 9)] * 6)
        self.answered([0, 0], [*six, *[("load", g, 60) for g in range(6)]], ("short",))

    def test_some(self):
        six = self.ship(*[(5, 9)] * 6)
        loaded = [*six, ("load", 0, 59), ("load", 1, 60), ("load", 3, 61), ("load", 4, 100), ("load", 5, 1)]
        self.answered([3, 0b100101], loaded, ("short",))
        self.answered([2, 0b100100], [*loaded, ("load", 0, 1)], ("short",))

    def test_what_spoils_is_short(self):
        self.answered([1, 0b10], [*self.ship((5, 3), (5, 2)), ("load", 0, 1000), ("load", 1, 1000)], ("short",))
        late = [start(uses=0), ("good", 5, 3), ("good", 5, 9), *THREE, ("leg", 49, 0, 0), ("leg", 100, 20, 20),
                ("load", 0, 100), ("load", 1, 100), ("hours", 48)]
        self.answered([1, 1], late, ("short",))
        self.answered([1, 1], [*late, ("load", 0, 29)], ("short",))
        self.answered([0, 0], [*late, ("load", 0, 30)], ("short",))

    def test_nobody_aboard(self):
        self.answered([0, 0], [start(), ("good", 5, 1), ("leg", 1, 0, 0), ("leg", 100, 20, 20)], ("short",))
        self.answered([0, 0], [*self.ship((5, 1), (5, 9)), *OUT], ("short",))

    def test_as_many_as_are_aboard_now(self):
        before = [*self.ship((5, 9)), ("load", 0, 40)]
        self.answered([1, 1], before, ("short",))
        self.answered([0, 0], [*before, ("gate", 1), ("scan", 0)], ("short",))

    # Before the port day, not on it.
    def test_up_to_that_day_alone(self):
        before = [start(uses=0), ("good", 5, 9), *THREE, ("load", 0, 15)]
        self.answered([0, 0], before, ("short",))
        self.answered([0, 0], [*before, ("hours", 23)], ("short",))
        self.answered([1, 1], [*before, ("hours", 24)], ("short",))

    def test_at_the_end(self):
        end = [start(last=1), ("good", 5, 1), *THREE, ("hours", 47)]
        self.answered([1, 1], end, ("short",))
        self.answered([0, 0], [*end, ("hours", 1)], ("short",))


class Lasts(LineCase):
    # Three persons who want 30 litres an hour; two hours in port, ten at sea, then port.
    def ship(self, miles=12, knots=6, **numbers):
        return [start(**{"uses": 10, "fresh": 1000, "makes": 30, "grey": 9000, "black": 9000, **numbers}), *THREE,
                ("leg", 2, 0, 9), ("leg", 10, miles, knots)]

    def test_by_fresh_water(self):
        for fresh, hours in [(1, 0), (29, 0), (30, 1), (59, 1), (60, 2), (100, 3), (119, 3), (120, 4)]:
            self.answered([hours], self.ship(fresh=fresh), ("lasts",))

    # Of 30 litres 27 become grey; but 29 litres become 26.
    def test_by_the_grey_tank(self):
        for grey, hours in [(1, 0), (26, 0), (27, 1), (53, 1), (54, 2), (80, 2), (81, 3)]:
            self.answered([hours], self.ship(grey=grey), ("lasts",))

    def test_by_the_black_tank(self):
        for black, hours in [(1, 0), (2, 0), (3, 1), (5, 1), (6, 2), (9, 3)]:
            self.answered([hours], self.ship(black=black), ("lasts",))

    def test_lacking_at_once(self):
        lacking = [*self.ship(fresh=100), ("hours", 3)]
        self.answered([0], lacking, ("lasts",))
        self.answered([4, 0, 20, 0], lacking, ("hours", 1))

    def test_five_hundred_at_most(self):
        for fresh, hours in [(499 * 30 - 1, 498), (499 * 30, 499), (500 * 30 - 1, 499), (500 * 30, 500),
                             (501 * 30, 500), (10000000, 500)]:
            self.answered([hours], self.ship(fresh=fresh, grey=10000000, black=10000000), ("lasts",))

    def test_never(self):
        self.answered([500], [start(fresh=1)], ("lasts",))
        self.answered([500], self.ship(uses=0, fresh=1, grey=1, black=1), ("lasts",))
        self.answered([500], [*self.ship(fresh=1), *OUT], ("lasts",))

    def test_behind_the_last_day(self):
        before = self.ship(last=1, fresh=3000)
        self.answered([100], before, ("lasts",))
        self.answered([53], [*before, ("hours", 47)], ("lasts",))
        self.answered([52], [*before, ("hours", 48)], ("lasts",))

    # Two hours use 60 of 90; at sea as much is made as is used; then it lasts one hour more.
    def test_making_and_letting_go_at_sea(self):
        tight = self.ship(fresh=90, grey=81, black=9)
        self.answered([3], tight, ("lasts",))
        self.answered([13], [*tight, ("set", 1, 1, 1)], ("lasts",))
        for setting in [(0, 1, 1), (1, 0, 1), (1, 1, 0)]:
            self.answered([3], [*tight, ("set", *setting)], ("lasts",))
        self.answered([12], [*tight, ("set", 1, 1, 1), ("hours", 1)], ("lasts",))
        self.answered([1], [*tight, ("set", 1, 1, 1), ("hours", 12)], ("lasts",))

    def test_each_by_itself_where_it_may_be(self):
        making = lambda miles: self.last([*self.ship(miles, 0, fresh=90), ("set", 1, 1, 1), ("lasts",)])
        self.assertEqual((making(11), making(12)), ([3], [13]))
        grey = lambda miles, knots: self.last([*self.ship(miles, knots, grey=81), ("set", 1, 1, 1), ("lasts",)])
        self.assertEqual((grey(3, 6), grey(4, 5), grey(4, 6)), ([3], [3], [14]))
        black = lambda miles, knots: self.last([*self.ship(miles, knots, black=9), ("set", 1, 1, 1), ("lasts",)])
        self.assertEqual((black(11, 4), black(12, 3), black(12, 4)), ([3], [3], [14]))

    def test_in_some_legs_alone(self):
        way = [start(fresh=90, makes=50, uses=10, grey=9000, black=9000), *THREE, ("set", 1, 0, 0), ("leg", 1, 0, 0),
               ("leg", 1, 11, 5), ("leg", 2, 12, 5), ("leg", 1, 0, 5), ("leg", 1, 20, 5)]
        # 60, 30, 80 - 30 = 50, 90 (all there's room for) - 30 = 60, 30, 80 - 30 = 50, 20, then it lacks.
        self.answered([7], way, ("lasts",))

    # Though somebody is missing, or the gate open, and the ship will stay.
    def test_by_the_legs_as_they_are(self):
        tight = [*self.ship(fresh=90), ("set", 1, 1, 1)]
        self.answered([13], [*tight, ("gate", 1)], ("lasts",))
        self.answered([8, 7, 150, 1], [*tight, ("gate", 1)], ("hours", 8))
        out = [*tight, ("gate", 1), ("scan", 0), ("gate", 0)]
        # 70, 50, then 80 - 20 = 60, 70 each hour at sea, and three hours in port.
        self.answered([15], out, ("lasts",))
        self.answered([0], [*tight, ("gate", 1), ("hours", 3)], ("lasts",))

    def test_as_many_aboard_as_now(self):
        before = self.ship(fresh=120)
        self.answered([4], before, ("lasts",))
        self.answered([6], [*before, ("gate", 1), ("scan", 2)], ("lasts",))
        self.answered([3], [*before, ("board", 1, 0, 0, 0)], ("lasts",))

    def test_against_the_hours(self):
        dice = random.Random(5)
        for each in range(80):
            before = [*self.ship(dice.randint(1, 15), dice.randint(3, 7), fresh=dice.randint(1, 900),
                                 grey=dice.randint(1, 900), black=dice.randint(1, 90), makes=dice.randint(1, 60)),
                      ("set", dice.randint(0, 1), dice.randint(0, 1), 1), ("leg", 3, 0, 0), ("leg", 40, 12, 6)]
            lasts = self.last([*before, ("lasts",)])[0]
            parts = play([*before, *[("hours", 1)] * 200])[len(before):]
            lacking = [number for number, part in enumerate(parts) if part[2] > 0]
            self.assertEqual(lasts if lasts < 200 else None, lacking[0] if lacking else None, before)


class Ahead(LineCase):
    def test_how_many(self):
        for n in (0, 241, BIG):
            self.refused(WRONG, [start()], ("ahead", n))
        self.answered([100000, 0, 1, 0], [start()], ("ahead", 1))
        self.answered([100000, 0, 1, 0], [start()], ("ahead", 240))

    def test_the_end_of_the_last_day(self):
        before = [start(last=1)]
        self.answered([100000, 0, 1, 0], before, ("ahead", 48))
        self.refused(WRONG, before, ("ahead", 49))
        for hours in (1, 47):
            late = [*before, ("hours", hours)]
            self.answered([100000, 0, 1, 0], late, ("ahead", 48 - hours))
            self.refused(WRONG, late, ("ahead", 49 - hours))
        end = [*before, ("hours", 48)]
        self.refused(WRONG, end, ("ahead", 1))
        self.refused(WRONG, end, ("ahead", 0))
        self.refused(WRONG, end, ("ahead", 240))

    def test_the_end_of_the_longest_voyage(self):
        before = [start(), *[("hours", 240)] * 6]
        self.answered([100000, 0, 1, 0], before, ("ahead", 24))
        self.refused(WRONG, before, ("ahead", 25))

    def test_what_is_told(self):
        before = [start(fresh=100, uses=10), *THREE, ("leg", 2, 0, 0), ("leg", 3, 9, 9)]
        self.answered([70, 0, 1, 0], before, ("ahead", 1))
        self.answered([40, 0, 0, 0], before, ("ahead", 2))
        self.answered([0, 0, 0, 20], before, ("ahead", 4))
        self.answered([0, 0, 1, 50], before, ("ahead", 5))
        kept = [*before, ("gate", 1)]
        self.answered([40, 1, 1, 0], kept, ("ahead", 2))
        self.answered([0, 3, 1, 20], kept, ("ahead", 4))

    # In these hours alone, though the ship was later and water lacked before.
    def test_from_now_on(self):
        before = [start(fresh=100, uses=10), *THREE, ("leg", 1, 0, 0), ("leg", 3, 9, 9), ("gate", 1), ("hours", 6)]
        self.answered([0, 2, 1, 60], before, ("ahead", 2))
        self.answered([0, 0, 0, 30], [*before, ("gate", 0)], ("ahead", 1))
        self.answered([0, 0, 1, 120], [*before, ("gate", 0)], ("ahead", 4))

    def test_making_ahead(self):
        before = [*AT_SEA[:-1], ("set", 1, 1, 1), ("hours", 1)]
        self.answered([99980, 0, 0, 0], before, ("ahead", 4))
        self.answered([99980, 0, 1, 0], before, ("ahead", 5))
        self.answered([99960, 0, 1, 0], before, ("ahead", 6))

    def random_ship(self, dice):
        calls = [start(uses=dice.randint(0, 80), fresh=dice.randint(1, 3000), makes=dice.randint(1, 500),
                       grey=dice.randint(1, 2000), black=dice.randint(1, 300), last=12), *cabins(3),
                 ("good", 3, 2), ("load", 0, 90), ("board", dice.randint(1, 6), 0, 0, 0), ("set", 1, 1, 1)]
        for each in range(dice.randint(0, 9)):
            calls.append(("leg", dice.randint(1, 40), (each % 2) * dice.randint(1, 15), dice.randint(2, 10)))
        calls += [("gate", 1), ("scan", 0)][:dice.randint(0, 2)]
        return calls + [("gate", 0)][:dice.randint(0, 1)] + [("hours", dice.randint(1, 60))]

    def test_against_the_same_hours(self):
        dice = random.Random(6)
        for each in range(60):
            before = self.random_ship(dice)
            n = dice.randint(1, 240)
            told = self.last([*before, ("ahead", n)])
            gone_by, water = self.played([*before, ("hours", n), ("water",)])[-2:]
            self.assertEqual(told, [water[0], gone_by[1], gone_by[3], gone_by[2]], before)
            if each < 20:
                self.changes_nothing(before, ("ahead", n))
