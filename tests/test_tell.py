from tests.line import AT_SEA, BIG, BUSY, NONE, LineCase, TOLD, cabins, play, start


class Where(LineCase):
    WAY = [start(), ("leg", 2, 0, 7), ("leg", 2, 15, 9), ("leg", 1, 0, 0), ("leg", 1, 3, 40)]

    def test_hour_by_hour(self):
        calls = [*self.WAY, ("where",)]
        for hour in range(7):
            calls += [("hours", 1), ("where",)]
        told = [part for part in self.played(calls) if len(part) == 5]
        self.assertEqual(told, [
            [0, 7, 1, 0, 6], [0, 7, 1, 1, 6], [15, 9, 0, 0, 6], [15, 9, 0, 0, 6],
            [0, 0, 1, 1, 6], [3, 40, 0, 0, 6], [0, 0, 1, 0, 6], [0, 0, 1, 0, 6]])

    def test_a_mile_off_is_at_sea(self):
        before = [start(), ("leg", 1, 0, 0), ("leg", 2, 1, 0)]
        self.answered([0, 0, 1, 1, 3], before, ("where",))
        self.answered([1, 0, 0, 0], before, ("hours", 1))
        self.answered([1, 0, 0, 0, 3], [*before, ("hours", 1)], ("where",))
        self.refused(BUSY, [*before, ("hours", 1)], ("gate", 1))

    def test_without_legs(self):
        self.answered([0, 0, 1, 0, 0], [start()], ("where",))
        self.answered([0, 0, 1, 0, 0], [start(), ("hours", 30)], ("where",))

    def test_the_next_hour_would_be_at_sea_though_she_may_not_leave(self):
        before = [start(), ("leg", 1, 0, 0), ("leg", 1, 5, 5), ("gate", 1)]
        self.answered([0, 0, 1, 1, 2], before, ("where",))
        self.answered([0, 0, 1, 1, 5], [*before, ("hours", 3)], ("where",))

    def test_a_way_that_grows(self):
        before = [start(), ("leg", 1, 0, 0)]
        self.answered([0, 0, 1, 0, 1], before, ("where",))
        self.answered([0, 0, 1, 1, 5], [*before, ("leg", 4, 1, 1)], ("where",))
        self.answered([0, 0, 1, 0, 5], [*before, ("leg", 4, 0, 1)], ("where",))


class Ready(LineCase):
    BEFORE = [start(), *cabins(2), ("board", 3, 0, 0, 0), ("leg", 1, 0, 0), ("leg", 1, 5, 5)]

    def test_nobody_missing_and_the_gate_shut(self):
        self.answered([1, 0, 0, 0], self.BEFORE, ("ready",))
        self.answered([1, 0, 0, 0], AT_SEA, ("ready",))

    def test_the_gate_open(self):
        self.answered([0, 0, 1, 0], [*self.BEFORE, ("gate", 1)], ("ready",))

    def test_somebody_missing(self):
        self.answered([0, 1, 1, 0], [*self.BEFORE, ("gate", 1), ("scan", 1)], ("ready",))
        self.answered([0, 1, 0, 0], [*self.BEFORE, ("gate", 1), ("scan", 1), ("gate", 0)], ("ready",))
        self.answered([0, 2, 0, 0], [*self.BEFORE, ("gate", 1), ("scan", 1), ("scan", 2), ("gate", 0)], ("ready",))

    def test_those_gone_are_not_missing(self):
        gone = [*self.BEFORE, ("board", 1, 0, 0, 0), ("gate", 1), ("scan", 3), ("scan", 0), ("leave", 1), ("gate", 0)]
        self.answered([0, 1, 0, 0], gone, ("ready",))

    def test_how_much_later_in_all(self):
        late = [*self.BEFORE, ("gate", 1), ("hours", 2), ("hours", 3)]
        self.answered([0, 0, 1, 5], late, ("ready",))
        self.answered([1, 0, 0, 5], [*late, ("gate", 0), ("hours", 20)], ("ready",))


class Stock(LineCase):
    BEFORE = [start(uses=0), ("good", 5, 1), ("good", 3, 9), *cabins(1), ("board", 2, 0, 0, 0)]

    def test_there_is_none(self):
        self.refused(NONE, [start()], ("stock", 0))
        self.refused(NONE, self.BEFORE, ("stock", 2))
        self.refused(NONE, self.BEFORE, ("stock", BIG))

    def test_day_by_day(self):
        calls = [*self.BEFORE, ("load", 0, 27), ("load", 1, 8)]
        told = []
        for day in range(4):
            told.append([self.last([*calls, ("stock", g)]) for g in range(2)])
            calls.append(("hours", 24))
        self.assertEqual(told, [[[27, 0, 0, 0], [8, 0, 0, 0]], [[17, 10, 0, 0], [2, 6, 0, 0]],
                                [[0, 20, 7, 0], [0, 8, 0, 4]], [[0, 20, 7, 10], [0, 8, 0, 10]]])

    def test_it_is_eaten_at_the_end_of_a_day_alone(self):
        before = [*self.BEFORE, ("load", 1, 8)]
        self.answered([8, 0, 0, 0], [*before, ("hours", 23)], ("stock", 1))
        self.answered([2, 6, 0, 0], [*before, ("hours", 47)], ("stock", 1))

    def test_several_lots(self):
        lots = [*self.BEFORE, ("load", 1, 8), ("hours", 24), ("load", 1, 5), ("load", 1, 6)]
        self.answered([13, 6, 0, 0], lots, ("stock", 1))

    def test_nobody_eats_nothing_and_nothing_lacks(self):
        nobody = [start(), ("good", 5, 1), ("load", 0, 9), ("hours", 24)]
        self.answered([9, 0, 0, 0], nobody, ("stock", 0))
        self.answered([0, 0, 9, 0], [*nobody, ("hours", 24)], ("stock", 0))


class Water(LineCase):
    BEFORE = [start(uses=7, fresh=500), *cabins(2), ("board", 3, 0, 0, 0)]

    def test_at_first(self):
        self.answered([500, 0, 0, 0], [start(fresh=500)], ("water",))
        self.answered([500, 0, 0, 21], self.BEFORE, ("water",))

    def test_hour_by_hour(self):
        self.answered([479, 18, 3, 21], [*self.BEFORE, ("hours", 1)], ("water",))
        self.answered([458, 36, 6, 21], [*self.BEFORE, ("hours", 2)], ("water",))
        self.answered([470, 6, 1, 21], [*self.BEFORE, ("hours", 2), ("ashore", 30, 5), ("bunker", 12)], ("water",))

    def test_what_is_wanted(self):
        self.answered([500, 0, 0, 14], [*self.BEFORE, ("gate", 1), ("scan", 1)], ("water",))
        self.answered([500, 0, 0, 35], [*self.BEFORE, ("board", 2, 1, 0, 0)], ("water",))
        full = [start(uses=80), *cabins(3), ("board", 6, 0, 0, 0), ("board", 6, 0, 0, 0), ("board", 4, 0, 0, 0)]
        self.answered([100000, 0, 0, 1280], full, ("water",))

    # What is wanted is told, not what could be used.
    def test_wanted_though_it_lacks(self):
        before = [start(uses=7, fresh=30), *cabins(1), ("board", 3, 0, 0, 0), ("hours", 5)]
        self.answered([0, 26, 4, 21], before, ("water",))


class Sums(LineCase):
    def test_at_first(self):
        self.answered([0, 0, 0, 0, 0, 0], [start()], ("sums",))

    def test_persons_there_have_been_and_gone(self):
        two = [start(), *cabins(2), ("board", 3, 1, 0, 0), ("board", 2, 0, 0, 0), ("gate", 1)]
        self.answered([5, 0, 0, 0, 0, 0], two, ("sums",))
        out = [*two, *[("scan", card) for card in range(5)]]
        self.answered([5, 0, 0, 0, 0, 0], out, ("sums",))
        self.answered([5, 3, 0, 0, 0, 0], [*out, ("leave", 0)], ("sums",))
        self.answered([5, 5, 0, 0, 0, 0], [*out, ("leave", 0), ("leave", 1)], ("sums",))
        self.answered([9, 3, 0, 0, 0, 0], [*out, ("leave", 0), ("board", 4, 0, 0, 0)], ("sums",))

    # The tank is full at first; that was neither made nor taken in.
    def test_water_made_taken_in_and_used(self):
        before = [start(uses=10, fresh=200, makes=25), *cabins(1), ("board", 3, 0, 0, 0), ("set", 1, 1, 1),
                  ("leg", 2, 0, 0), ("leg", 2, 12, 9), ("hours", 2)]
        self.answered([3, 0, 0, 60, 0, 0], before, ("sums",))
        self.answered([3, 0, 11, 60, 0, 0], [*before[:-1], ("hours", 1), ("bunker", 11), ("hours", 1)], ("sums",))
        self.answered([3, 0, 25, 90, 0, 0], [*before, ("hours", 1)], ("sums",))
        self.answered([3, 0, 50, 120, 0, 0], [*before, ("hours", 2)], ("sums",))
        self.answered([3, 0, 59, 150, 0, 0], [*before, ("hours", 3), ("bunker", 9)], ("sums",))

    def test_what_lacked_was_not_used(self):
        before = [start(uses=10, fresh=70), *cabins(1), ("board", 3, 0, 0, 0), ("hours", 9)]
        self.answered([3, 0, 0, 70, 0, 0], before, ("sums",))

    def test_what_was_ever_loaded(self):
        before = [start(), ("good", 1, 1), ("good", 1, 1), ("load", 0, 5), ("load", 1, 7), ("load", 0, 2)]
        self.answered([0, 0, 0, 0, 14, 0], before, ("sums",))
        self.answered([0, 0, 0, 0, 14, 0], [*before, ("hours", 72)], ("sums",))
        self.answered([0, 0, 0, 0, 17, 0], [*before, ("hours", 72), ("load", 1, 3)], ("sums",))

    def test_how_much_later_in_all(self):
        late = [start(), ("leg", 1, 0, 0), ("leg", 1, 5, 5), ("gate", 1), ("hours", 2), ("hours", 3)]
        self.answered([0, 0, 0, 0, 0, 5], late, ("sums",))
        self.answered([0, 0, 0, 0, 0, 5], [*late, ("gate", 0), ("hours", 30)], ("sums",))


class Telling(LineCase):
    BEFORE = [start(), *cabins(3), ("good", 1, 4), ("board", 3, 1, 0, 0), ("board", 1, 0, 0, 0), ("load", 0, 9),
              ("leg", 2, 0, 0), ("leg", 90, 15, 5), ("set", 1, 0, 1), ("drill",), ("in", 0), ("gate", 1), ("scan", 0),
              ("hours", 3), ("scan", 3), ("leave", 1), ("drill",), ("back",)]

    def test_telling_changes_nothing(self):
        for before in (self.BEFORE, AT_SEA, [start()]):
            self.led_up(before)
            for call in [*TOLD, ("ahead", 240), ("state",)]:
                self.changes_nothing(before, call)

    def test_telling_twice_tells_the_same(self):
        parts = play([*self.BEFORE, *TOLD, ("state",), *TOLD, ("state",)])[len(self.BEFORE):]
        self.assertEqual(parts[:len(TOLD) + 1], parts[len(TOLD) + 1:])
