from cruiseship.supply_calls import cr_bunker

from tests.line import AT_SEA, BIG, BUSY, FULL, LESS, NONE, ROOM, SO, WRONG, LineCase, bare_vessel, cabins, start

MILLIARD = 1000000000


class Load(LineCase):
    BEFORE = [start(room=100), ("good", 1, 3), ("good", 1, 100)]

    def test_loading(self):
        parts = self.played([*self.BEFORE, ("load", 0, 5), ("load", 0, 7), ("load", 1, 1), ("hours", 24),
                             ("load", 0, 1), ("load", 1, 2)])
        self.assertEqual(parts[3:6], [[5, 3], [12, 3], [1, 100]])
        self.assertEqual(parts[7:], [[13, 4], [3, 101]])

    def test_there_is_none(self):
        self.refused(NONE, self.BEFORE, ("load", 2, 5))
        self.refused(NONE, self.BEFORE, ("load", BIG, 5))
        self.refused(NONE, [start()], ("load", 0, 5))

    def test_nothing(self):
        self.refused(WRONG, self.BEFORE, ("load", 0, 0))

    def test_at_sea(self):
        self.refused(BUSY, AT_SEA, ("load", 0, 1))
        self.answered([1, 3], [*AT_SEA, ("hours", 5)], ("load", 0, 1))

    def test_room(self):
        self.answered([100, 3], self.BEFORE, ("load", 0, 100))
        self.refused(ROOM, self.BEFORE, ("load", 0, 101))
        self.refused(ROOM, self.BEFORE, ("load", 0, BIG))
        some = [*self.BEFORE, ("load", 0, 60)]
        self.answered([40, 100], some, ("load", 1, 40))
        self.refused(ROOM, some, ("load", 1, 41))
        self.refused(ROOM, some, ("load", 0, 41))

    def test_what_is_eaten_or_spoilt_leaves_room(self):
        eaten = [start(room=100), ("good", 10, 9), *cabins(1), ("board", 2, 0, 0, 0), ("load", 0, 100), ("hours", 24)]
        self.answered([100, 10], eaten, ("load", 0, 20))
        self.refused(ROOM, eaten, ("load", 0, 21))
        spoilt = [start(room=100), ("good", 10, 1), ("load", 0, 100), ("hours", 48)]
        self.answered([100, 3], spoilt, ("load", 0, 100))
        self.refused(ROOM, [*spoilt[:-1], ("hours", 47)], ("load", 0, 1))

    def test_most_of_one_good_ever(self):
        before = [start(room=MILLIARD), ("good", 1, 1), ("good", 1, 1), ("load", 0, MILLIARD - 1), ("hours", 48)]
        self.answered([1, 3], before, ("load", 0, 1))
        self.refused(ROOM, before, ("load", 0, 2))
        self.answered([2, 3], before, ("load", 1, 2))
        self.refused(ROOM, [*before, ("load", 0, 1), ("hours", 48)], ("load", 0, 1))

    def test_most_of_all_goods_ever(self):
        before = [start(room=MILLIARD), ("good", 1, 1), ("good", 1, 1), ("good", 1, 1),
                  ("load", 0, MILLIARD - 1), ("hours", 48), ("load", 1, MILLIARD - 1), ("hours", 48)]
        self.answered([2, 5], before, ("load", 2, 2))
        self.refused(ROOM, before, ("load", 2, 3))
        self.answered([1, 5], [*before, ("load", 2, 1)], ("load", 0, 1))
        self.refused(ROOM, [*before, ("load", 2, 2)], ("load", 0, 1))

    def six_lots(self, room=100):
        before = [start(room=room), ("good", 1, 100), ("good", 1, 100)]
        for day in range(5):
            before += [("load", 0, 1), ("hours", 24)]
        return before + [("load", 0, 1)]

    def test_six_lots(self):
        six = self.six_lots()
        self.answered([7, 105], six, ("load", 0, 1))
        seventh_day = [*six, ("hours", 24)]
        self.refused(FULL, seventh_day, ("load", 0, 1))
        self.answered([1, 106], seventh_day, ("load", 1, 1))

    def test_what_is_loaded_on_one_day_is_one_lot(self):
        one_day = [start(), ("good", 1, 100), *[("load", 0, 2)] * 7]
        parts = self.played([*one_day, *[("hours", 24), ("load", 0, 1)] * 6])
        self.assertEqual(parts[-11::2], [[15, 101], [16, 102], [17, 103], [18, 104], [19, 105], [FULL]])

    def test_a_lot_that_is_eaten_up_is_none(self):
        before = [*self.six_lots(), *cabins(1), ("board", 1, 0, 0, 0), ("hours", 24)]
        self.answered([6, 106], before, ("load", 0, 1))
        self.refused(FULL, [*before, ("load", 0, 9), ("gate", 1), ("scan", 0), ("hours", 24)], ("load", 0, 1))

    def test_which_refusal_is_told_first(self):
        self.refused(NONE, self.BEFORE, ("load", 2, 0))
        self.refused(NONE, AT_SEA, ("load", 1, 1))
        self.refused(NONE, self.BEFORE, ("load", 2, 101))
        self.refused(WRONG, AT_SEA, ("load", 0, 0))
        self.refused(BUSY, AT_SEA, ("load", 0, BIG))
        self.refused(ROOM, [*self.six_lots(room=6), ("hours", 24)], ("load", 0, 1))
        self.refused(WRONG, [*self.six_lots(), ("hours", 24)], ("load", 0, 0))
        at_sea = [start(), ("good", 1, 100), ("leg", 145, 0, 0), ("leg", 9, 9, 9)]
        for day in range(6):
            at_sea += [("load", 0, 1), ("hours", 24)]
        self.refused(BUSY, [*at_sea, ("hours", 1)], ("load", 0, 1))


class Bunker(LineCase):
    BEFORE = [start(uses=10, fresh=100), *cabins(1), ("board", 3, 0, 0, 0), ("hours", 1)]

    def test_taking_in(self):
        parts = self.played([*self.BEFORE, ("bunker", 5), ("bunker", 25)])
        self.assertEqual(parts[-2:], [[75], [100]])

    def test_nothing(self):
        self.refused(WRONG, self.BEFORE, ("bunker", 0))

    def test_at_sea(self):
        self.refused(BUSY, AT_SEA, ("bunker", 1))

    def test_room(self):
        self.answered([100], self.BEFORE, ("bunker", 30))
        self.refused(ROOM, self.BEFORE, ("bunker", 31))
        self.refused(ROOM, self.BEFORE, ("bunker", BIG))
        self.refused(ROOM, [*self.BEFORE, ("bunker", 30)], ("bunker", 1))

    # No voyage is long enough to use so much, so the counts are set by hand.
    def test_most_taken_in_ever(self):
        vessel = bare_vessel()
        vessel.tanks.fresh = 0
        vessel.tanks.taken_in = MILLIARD - 3
        self.assertEqual(cr_bunker(vessel, 11), [ROOM])
        self.assertEqual(cr_bunker(vessel, 4), [FULL])
        self.assertEqual(cr_bunker(vessel, 3), [3])
        self.assertEqual(cr_bunker(vessel, 1), [FULL])
        self.assertEqual(vessel.tanks.taken_in, MILLIARD)

    def test_which_refusal_is_told_first(self):
        self.refused(WRONG, AT_SEA, ("bunker", 0))
        self.refused(BUSY, AT_SEA, ("bunker", BIG))


class Ashore(LineCase):
    BEFORE = [start(uses=10, fresh=100), *cabins(1), ("board", 3, 0, 0, 0), ("hours", 1)]

    def test_giving(self):
        parts = self.played([*self.BEFORE, ("ashore", 7, 1), ("ashore", 0, 2), ("ashore", 20, 0)])
        self.assertEqual(parts[-3:], [[20, 2], [20, 0], [0, 0]])

    def test_nothing(self):
        self.refused(WRONG, self.BEFORE, ("ashore", 0, 0))

    def test_at_sea(self):
        self.refused(BUSY, AT_SEA, ("ashore", 1, 1))

    def test_less(self):
        self.answered([0, 0], self.BEFORE, ("ashore", 27, 3))
        for grey, black in [(28, 0), (28, 3), (0, 4), (27, 4), (BIG, 0), (0, BIG)]:
            self.refused(LESS, self.BEFORE, ("ashore", grey, black))

    def test_which_refusal_is_told_first(self):
        self.refused(WRONG, AT_SEA, ("ashore", 0, 0))
        self.refused(BUSY, AT_SEA, ("ashore", BIG, BIG))


class Set(LineCase):
    def test_what_they_were(self):
        settings = [(1, 0, 0), (0, 1, 0), (0, 0, 1), (1, 1, 0), (0, 1, 1), (1, 0, 1), (1, 1, 1), (0, 0, 0)]
        parts = self.played([start()] + [("set", *three) for three in settings])
        self.assertEqual(parts[1:], [[0], [1], [2], [4], [3], [6], [5], [7]])

    def test_above_one(self):
        for three in [(2, 0, 0), (0, 2, 0), (0, 0, 2), (BIG, 0, 0), (0, BIG, 0), (0, 0, BIG), (0, 1, 2), (2, 2, 2)]:
            self.refused(WRONG, [start()], ("set", *three))
            self.refused(WRONG, [start(), ("set", 1, 0, 1)], ("set", *three))

    def test_all_three_are_so(self):
        self.refused(SO, [start()], ("set", 0, 0, 0))
        self.refused(SO, [start(), ("set", 1, 0, 1)], ("set", 1, 0, 1))
        every = [(making, grey, black) for making in (0, 1) for grey in (0, 1) for black in (0, 1)]
        for before in every[1:]:
            for behind in every:
                set_before = [start(), ("set", *before)]
                if before == behind:
                    self.refused(SO, set_before, ("set", *behind))
                else:
                    self.answered([before[0] + 2 * before[1] + 4 * before[2]], set_before, ("set", *behind))

    def test_at_sea_too(self):
        self.answered([0], AT_SEA, ("set", 1, 0, 0))
