import random

from tests.line import AT_SEA, BIG, LATE, PROBE, WRONG, LineCase, cabins, play, start

WAY = [("leg", 2, 0, 0), ("leg", 3, 12, 10), ("leg", 2, 0, 0)]
ONE = [*cabins(2), ("board", 1, 0, 0, 0)]
OUT = [("gate", 1), ("scan", 0), ("gate", 0)]
BACK = [("gate", 1), ("scan", 0), ("gate", 0)]


class Hours(LineCase):
    def test_how_many(self):
        self.answered([1, 0, 0, 1], [start()], ("hours", 1))
        self.answered([240, 0, 0, 1], [start()], ("hours", 240))
        for n in (0, 241, BIG):
            self.refused(WRONG, [start()], ("hours", n))

    def test_the_end_of_the_last_day(self):
        for last in (1, 2, 9):
            end = 24 * (last + 1)
            before = [start(last=last)]
            self.answered([end, 0, 0, 1], before, ("hours", end))
            if end < 240:
                self.refused(LATE, before, ("hours", end + 1))
            at_end = [*before, ("hours", end)]
            self.refused(LATE, at_end, ("hours", 1))
            self.refused(LATE, at_end, ("hours", 240))
            self.refused(WRONG, at_end, ("hours", 0))
            self.refused(WRONG, at_end, ("hours", 241))
            ahead = [*before, ("hours", end - 1)]
            self.refused(LATE, ahead, ("hours", 2))
            self.answered([end, 0, 0, 1], ahead, ("hours", 1))

    def test_the_end_of_the_longest_voyage(self):
        before = [start(last=60)] + [("hours", 240)] * 6
        self.answered([1464, 0, 0, 1], before, ("hours", 24))
        self.refused(LATE, before, ("hours", 25))

    def test_other_calls_behind_the_end(self):
        end = [start(last=1), ("good", 1, 4), *ONE, ("load", 0, 9), ("hours", 48)]
        self.answered([8, 6], end, ("load", 0, 1))
        self.answered([1, 1, 1, 1], end, ("board", 1, 0, 0, 0))


class Leaving(LineCase):
    def test_with_nobody_missing_and_the_gate_shut(self):
        before = [start(uses=0), *ONE, *WAY]
        self.answered([1, 0, 0, 1], before, ("hours", 1))
        self.answered([2, 0, 0, 0], before, ("hours", 2))
        self.answered([4, 0, 0, 0], before, ("hours", 4))
        self.answered([5, 0, 0, 1], before, ("hours", 5))
        self.answered([9, 0, 0, 1], before, ("hours", 9))

    def test_with_somebody_missing(self):
        before = [start(uses=0), *ONE, *WAY, *OUT]
        self.answered([1, 0, 0, 1], before, ("hours", 1))
        self.answered([2, 1, 0, 1], before, ("hours", 2))
        self.answered([12, 11, 0, 1], before, ("hours", 12))
        self.answered([0, 0, 1, 1, 8], [*before, ("hours", 2)], ("where",))
        self.answered([0, 1, 0, 11], [*before, ("hours", 12)], ("ready",))

    def test_with_the_gate_open(self):
        before = [start(uses=0), *ONE, *WAY, ("gate", 1)]
        self.answered([1, 0, 0, 1], before, ("hours", 1))
        self.answered([2, 1, 0, 1], before, ("hours", 2))
        self.answered([7, 6, 0, 1], before, ("hours", 7))
        self.answered([0, 0, 1, 6], [*before, ("hours", 7)], ("ready",))

    def test_once_all_are_back_she_leaves(self):
        before = [start(uses=0), *ONE, *WAY, *OUT, ("hours", 5), *BACK]
        self.answered([6, 0, 0, 0], before, ("hours", 1))
        self.answered([12, 10, 0, 0, 11], [*before, ("hours", 1)], ("where",))
        self.answered([1, 0, 0, 4], [*before, ("hours", 1)], ("ready",))
        gone = [start(uses=0), *ONE, *WAY, *OUT, ("hours", 5), ("leave", 0)]
        self.answered([6, 0, 0, 0], gone, ("hours", 1))

    def test_where_at_sea_tells_in_port_as_nothing(self):
        self.answered([12, 10, 0, 0, 6], AT_SEA, ("where",))

    def test_later_is_told_for_these_hours_alone(self):
        before = [start(uses=0), *ONE, *WAY, ("gate", 1), ("hours", 5)]
        self.answered([8, 3, 0, 1], before, ("hours", 3))
        self.answered([0, 0, 1, 7], [*before, ("hours", 3)], ("ready",))

    def test_only_leaving_port_makes_her_later(self):
        ports = [start(), *ONE, ("leg", 1, 0, 0), ("leg", 1, 0, 3), *OUT]
        self.answered([5, 0, 0, 1], ports, ("hours", 5))
        behind = [start(), *ONE, *OUT]
        self.answered([240, 0, 0, 1], behind, ("hours", 240))

    def test_each_port_may_keep_her(self):
        way = [("leg", 1, 0, 0), ("leg", 1, 5, 5), ("leg", 1, 0, 0), ("leg", 1, 5, 5)]
        before = [start(uses=0), *ONE, *way, ("gate", 1), ("hours", 2), ("gate", 0)]
        self.answered([4, 0, 0, 1], before, ("hours", 2))
        second = [*before, ("hours", 2), ("gate", 1), ("hours", 3)]
        self.answered([0, 0, 1, 5], second, ("ready",))
        self.answered([0, 0, 1, 1, 9], second, ("where",))
        self.answered([8, 0, 0, 0], [*second, ("gate", 0)], ("hours", 1))

    def test_a_leg_may_grow_past_what_may_be_told(self):
        before = [start(uses=0), *ONE, ("leg", 500, 0, 0), ("leg", 2, 5, 5), ("gate", 1), *[("hours", 240)] * 2]
        self.answered([580, 81, 0, 1], before, ("hours", 100))
        self.answered([0, 0, 1, 1, 583], [*before, ("hours", 100)], ("where",))

    def test_from_sea_to_sea_and_into_port(self):
        way = [("leg", 1, 0, 0), ("leg", 1, 5, 5), ("leg", 1, 7, 5)]
        parts = self.played([start(), *way, ("hours", 1), ("hours", 1), ("where",), ("hours", 1), ("where",)])
        self.assertEqual(parts[4:], [[1, 0, 0, 0], [2, 0, 0, 0], [7, 5, 0, 0, 3], [3, 0, 0, 1], [0, 0, 1, 0, 3]])


# The tanks behind some hours: fresh, grey, black.
def tanks(calls):
    return tuple(play([*calls, ("water",)])[-1][:3])


class Water(LineCase):
    def ship(self, persons, **numbers):
        return [start(**{"uses": 10, "fresh": 100, "makes": 25, "grey": 90, "black": 90, **numbers}),
                *cabins(2), ("board", persons, 0, 0, 0)]

    def test_what_is_used(self):
        before = self.ship(3)
        self.answered([1, 0, 0, 1], before, ("hours", 1))
        self.assertEqual(tanks([*before, ("hours", 1)]), (70, 27, 3))
        self.assertEqual(tanks([*before, ("hours", 2)]), (40, 54, 6))

    def test_nobody_uses_nothing(self):
        self.assertEqual(tanks([start(fresh=9), ("hours", 30)]), (9, 0, 0))
        self.assertEqual(tanks([*self.ship(6, uses=0), ("hours", 30)]), (100, 0, 0))

    def test_only_those_aboard_use(self):
        before = [*self.ship(3), ("gate", 1), ("scan", 1), ("hours", 1)]
        self.assertEqual(tanks(before), (80, 18, 2))
        self.assertEqual(tanks([*before, ("scan", 1), ("hours", 1)]), (50, 45, 5))

    def test_nine_tenths_are_rounded_down(self):
        for uses, grey, black in [(1, 0, 1), (2, 1, 1), (9, 8, 1), (10, 9, 1), (11, 9, 2), (19, 17, 2), (80, 72, 8)]:
            self.assertEqual(tanks([*self.ship(1, uses=uses), ("hours", 1)]), (100 - uses, grey, black))
        self.assertEqual(tanks([*self.ship(1, uses=1), ("hours", 5)]), (95, 0, 5))

    def test_no_more_than_there_is(self):
        before = self.ship(3, fresh=80)
        self.answered([2, 0, 0, 1], before, ("hours", 2))
        self.answered([3, 0, 10, 1], before, ("hours", 3))
        self.answered([5, 0, 70, 1], before, ("hours", 5))
        self.answered([5, 0, 60, 1], [*before, ("hours", 3)], ("hours", 2))
        self.assertEqual(tanks([*before, ("hours", 3)]), (0, 27 + 27 + 18, 3 + 3 + 2))

    def test_no_more_than_grey_holds(self):
        before = self.ship(3, grey=9)
        self.answered([1, 0, 19, 1], before, ("hours", 1))
        self.assertEqual(tanks([*before, ("hours", 1)]), (89, 9, 2))
        self.answered([2, 0, 29, 1], [*before, ("hours", 1)], ("hours", 1))
        self.assertEqual(tanks([*before, ("hours", 2)]), (88, 9, 3))

    def test_no_more_than_black_holds(self):
        before = self.ship(3, black=2)
        self.answered([1, 0, 10, 1], before, ("hours", 1))
        self.assertEqual(tanks([*before, ("hours", 1)]), (80, 18, 2))
        self.answered([3, 0, 60, 1], [*before, ("hours", 1)], ("hours", 2))

    def test_the_most_that_both_tanks_hold(self):
        for grey in (1, 2, 8, 9, 10, 17, 26, 27, 28):
            for black in (1, 2, 3, 4):
                for uses in (0, 1, 7, 10):
                    most = max(used for used in range(min(3 * uses, 100) + 1)
                               if used * 9 // 10 <= grey and used - used * 9 // 10 <= black)
                    lacks = self.last([*self.ship(3, uses=uses, grey=grey, black=black), ("hours", 1)])[2]
                    self.assertEqual(lacks, 3 * uses - most, (grey, black, uses))

    # One hour in port, some at sea, then port again, where the tanks can be looked into.
    def out(self, miles, knots, setting, hours, **numbers):
        return [*self.ship(3, **numbers), ("set", *setting), ("leg", 1, 0, 0), ("leg", hours, miles, knots),
                ("hours", 1 + hours)]

    def test_making(self):
        self.assertEqual(tanks(self.out(12, 0, (1, 0, 0), 1)), (65, 54, 6))
        self.assertEqual(tanks(self.out(1000, 40, (1, 0, 0), 1)), (65, 54, 6))
        self.assertEqual(tanks(self.out(11, 40, (1, 0, 0), 1)), (40, 54, 6))
        self.assertEqual(tanks(self.out(12, 40, (0, 0, 0), 1)), (40, 54, 6))

    def test_as_much_is_made_as_there_is_room_for(self):
        self.assertEqual(tanks(self.out(12, 0, (1, 0, 0), 1, makes=30)), (70, 54, 6))
        self.assertEqual(tanks(self.out(12, 0, (1, 0, 0), 1, makes=31)), (70, 54, 6))
        self.assertEqual(tanks(self.out(12, 0, (1, 0, 0), 1, makes=29)), (69, 54, 6))

    def test_it_is_made_before_it_is_used(self):
        before = [*self.ship(3, fresh=30, makes=20), ("set", 1, 0, 0), ("leg", 1, 0, 0), ("leg", 2, 12, 0)]
        self.answered([1, 0, 0, 0], before, ("hours", 1))
        self.answered([2, 0, 10, 0], [*before, ("hours", 1)], ("hours", 1))
        self.answered([4, 0, 50, 1], before, ("hours", 4))

    def test_making_is_not_for_port(self):
        self.assertEqual(tanks([*self.ship(3), ("set", 1, 1, 1), ("hours", 2)]), (40, 54, 6))
        port = [*self.ship(3), ("leg", 2, 0, 40), ("set", 1, 1, 1), ("hours", 2)]
        self.assertEqual(tanks(port), (40, 54, 6))

    def test_letting_grey_go(self):
        self.assertEqual(tanks(self.out(4, 6, (0, 1, 0), 1)), (40, 27, 6))
        self.assertEqual(tanks(self.out(1000, 40, (0, 1, 0), 1)), (40, 27, 6))
        self.assertEqual(tanks(self.out(3, 6, (0, 1, 0), 1)), (40, 54, 6))
        self.assertEqual(tanks(self.out(4, 5, (0, 1, 0), 1)), (40, 54, 6))
        self.assertEqual(tanks(self.out(4, 6, (1, 0, 1), 1)), (40, 54, 6))

    def test_letting_black_go(self):
        self.assertEqual(tanks(self.out(12, 4, (0, 0, 1), 1)), (40, 54, 3))
        self.assertEqual(tanks(self.out(1000, 40, (0, 0, 1), 1)), (40, 54, 3))
        self.assertEqual(tanks(self.out(11, 4, (0, 0, 1), 1)), (40, 54, 6))
        self.assertEqual(tanks(self.out(12, 3, (0, 0, 1), 1)), (40, 54, 6))
        self.assertEqual(tanks(self.out(12, 4, (0, 1, 0), 1)), (40, 54, 6))

    def test_it_goes_before_more_comes(self):
        before = [*self.ship(3, grey=27, black=3), ("set", 0, 1, 1), ("leg", 1, 0, 0), ("leg", 2, 12, 6)]
        self.answered([3, 0, 0, 1], before, ("hours", 3))
        self.answered([4, 0, 30, 1], before, ("hours", 4))

    # The hour that begins in port is an hour in port, though at its end the ship is at sea.
    def test_by_the_leg_of_this_hour(self):
        way = [("leg", 1, 0, 0), ("leg", 1, 12, 6)]
        before = [*self.ship(1, uses=20), ("set", 1, 1, 1), *way]
        self.assertEqual(tanks([*before, ("hours", 2)]), (80, 18, 2))
        late = [*before, ("gate", 1), ("hours", 2), ("gate", 0)]
        self.assertEqual(tanks(late), (60, 36, 4))
        self.assertEqual(tanks([*late, ("hours", 2)]), (45, 18, 2))


class Days(LineCase):
    def ship(self, persons, *goods):
        return [start(uses=0, room=10000), *[("good", *good) for good in goods], *cabins(2),
                ("board", persons, 0, 0, 0)]

    def there_is(self, calls, g=0):
        return self.last([*calls, ("stock", g)])[0]

    def test_it_is_eaten_at_the_end_of_a_day(self):
        before = [*self.ship(3, (5, 9)), ("load", 0, 100)]
        self.assertEqual(self.there_is([*before, ("hours", 23)]), 100)
        self.assertEqual(self.there_is([*before, ("hours", 24)]), 85)
        self.assertEqual(self.there_is([*before, ("hours", 47)]), 85)
        self.assertEqual(self.there_is([*before, ("hours", 48)]), 70)
        self.assertEqual(self.there_is([*before, ("hours", 168)]), 0)

    def test_it_is_eaten_of_each_good(self):
        before = [*self.ship(2, (5, 9), (1, 9), (1000, 9)), ("load", 0, 100), ("load", 1, 100), ("load", 2, 1999),
                  ("hours", 24)]
        self.assertEqual([self.there_is(before, g) for g in range(3)], [90, 98, 0])

    def test_all_who_are_aboard_then_eat(self):
        before = [*self.ship(3, (5, 9)), ("load", 0, 100), ("gate", 1), ("hours", 23), ("scan", 0)]
        self.assertEqual(self.there_is([*before, ("hours", 1)]), 90)
        self.assertEqual(self.there_is([*before, ("scan", 0), ("hours", 1)]), 85)
        self.assertEqual(self.there_is([*before, ("board", 2, 0, 0, 0), ("hours", 1)]), 80)
        self.assertEqual(self.there_is([*before, ("hours", 1), ("scan", 0), ("hours", 24)]), 75)

    def test_it_is_good_up_to_its_day_and_that_with_it(self):
        before = [*self.ship(1, (5, 2)), ("load", 0, 100)]
        self.assertEqual(self.there_is([*before, ("hours", 48)]), 90)
        self.assertEqual(self.there_is([*before, ("hours", 71)]), 90)
        self.assertEqual(self.there_is([*before, ("hours", 72)]), 0)

    def test_it_is_eaten_on_its_last_day(self):
        before = [*self.ship(1, (5, 1)), ("load", 0, 10), ("hours", 24), ("load", 0, 3), ("hours", 24)]
        self.assertEqual(self.there_is(before), 3)
        self.assertEqual(self.there_is([*before, ("hours", 23)]), 3)

    def test_what_spoils_first_is_eaten_first(self):
        before = [*self.ship(1, (4, 1)), ("load", 0, 5), ("hours", 24), ("load", 0, 5), ("hours", 24)]
        self.assertEqual(self.there_is(before), 2)
        self.assertEqual(self.there_is([*before, ("hours", 24)]), 0)
        three = [*self.ship(1, (4, 2)), ("load", 0, 8), ("hours", 24), ("load", 0, 8), ("hours", 24), ("load", 0, 8)]
        self.assertEqual(self.there_is([*three, ("hours", 24)]), 12)
        self.assertEqual(self.there_is([*three, ("hours", 48)]), 8)
        self.assertEqual(self.there_is([*three, ("hours", 72)]), 0)

    def test_what_was_eaten_has_spoilt_and_has_lacked(self):
        calls = [*self.ship(2, (5, 1), (3, 9)), ("load", 0, 27), ("load", 1, 8), ("hours", 72)]
        self.answered([0, 20, 7, 10], calls, ("stock", 0))
        self.answered([0, 8, 0, 10], calls, ("stock", 1))

    def test_one_lot_a_day(self):
        before = [*self.ship(1, (1, 1)), ("load", 0, 5), ("hours", 5), ("load", 0, 5), ("hours", 19)]
        self.assertEqual(self.there_is(before), 9)
        self.assertEqual(self.there_is([*before, ("hours", 24)]), 0)

    def test_days_end_at_sea_too(self):
        before = [*self.ship(1, (5, 9)), ("load", 0, 100), ("leg", 1, 0, 0), ("leg", 30, 20, 20), ("hours", 31)]
        self.assertEqual(self.there_is(before), 95)

    def test_the_end_of_the_last_day_is_one(self):
        before = [start(uses=0, last=1), ("good", 5, 1), *cabins(1), ("board", 1, 0, 0, 0), ("load", 0, 100),
                  ("hours", 24), ("load", 0, 7), ("hours", 23)]
        self.assertEqual(self.there_is(before), 102)
        self.assertEqual(self.there_is([*before, ("hours", 1)]), 7)


class Pieces(LineCase):
    def random_ship(self, dice):
        calls = [start(uses=dice.randint(0, 80), fresh=dice.randint(1, 3000), makes=dice.randint(1, 500),
                       grey=dice.randint(1, 2000), black=dice.randint(1, 300), last=30), *cabins(3)]
        for each in range(3):
            calls.append(("good", dice.randint(1, 20), dice.randint(1, 6)))
            calls.append(("load", each, dice.randint(1, 900)))
            calls.append(("board", dice.randint(1, 4), 0, 0, 0))
        calls.append(("set", dice.randint(0, 1), dice.randint(0, 1), 1))
        for each in range(dice.randint(0, 9)):
            calls.append(("leg", dice.randint(1, 40), (each % 2) * dice.randint(1, 15), dice.randint(2, 10)))
        calls += [("gate", 1), ("scan", 0)][:dice.randint(0, 2)]
        return calls + [("gate", 0)][:dice.randint(0, 1)]

    def test_hours_in_pieces_are_the_same(self):
        dice = random.Random(4)
        for each in range(60):
            before = self.random_ship(dice)
            whole = dice.randint(1, 240)
            pieces = []
            while sum(pieces) < whole:
                pieces.append(dice.randint(1, whole - sum(pieces)))
            at_once = play([*before, ("hours", whole), *PROBE])[len(before):]
            bit_by_bit = play([*before, *[("hours", n) for n in pieces], *PROBE])[len(before):]
            parts = bit_by_bit[:len(pieces)]
            together = [parts[-1][0], sum(part[1] for part in parts), sum(part[2] for part in parts), parts[-1][3]]
            self.assertEqual(at_once[0], together)
            self.assertEqual(at_once[1:], bit_by_bit[len(pieces):])
            one_by_one = play([*before, *[("hours", 1)] * whole, *PROBE])[len(before) + whole:]
            self.assertEqual(at_once[1:], one_by_one)
