from tests.line import AT_SEA, BUSY, LineCase, PROBE, cabins, play, start


class Where(LineCase):
    WAY = [start(), ("leg", 2, 0, 7), ("leg", 2, 15, 9), ("leg", 1, 0, 0), ("leg", 1, 3, 40)]

    def test_hour_by_hour(self):
        calls = [*self.WAY, ("where",)]
        for hour in range(7):
            calls += [("hours", 1), ("where",)]
        told = [part for part in self.played(calls) if len(part) == 5]
        self.assertEqual(told, [
            [0, 7, 1, 0, 6], [0, 7, 1, 1, 6], [15, 9, 0, 0, 6], [15, 9, 0, 0, 6],
            [0, 0, 1, 1, 6], [3, 40, 0, 0, 6], [0, 0, 1, 0, 6], [0, 0, 1, 0, 6]])

    def test_a_mile_off_is_at_sea(self):
        before = [start(), ("leg", 1, 0, 0), ("leg", 2, 1, 0)]
        self.answered([0, 0, 1, 1, 3], before, ("where",))
        self.answered([1, 0, 0, 0], before, ("hours", 1))
        self.answered([1, 0, 0, 0, 3], [*before, ("hours", 1)], ("where",))
        self.refused(BUSY, [*before, ("hours", 1)], ("gate", 1))

    def test_without_legs(self):
        self.answered([0, 0, 1, 0, 0], [start()], ("where",))
        self.answered([0, 0, 1, 0, 0], [start(), ("hours", 30)], ("where",))

    def test_the_next_hour_would_be_at_sea_though_she_may_not_leave(self):
        before = [start(), ("leg", 1, 0, 0), ("leg", 1, 5, 5), ("gate", 1)]
        self.answered([0, 0, 1, 1, 2], before, ("where",))
        self.answered([0, 0, 1, 1, 5], [*before, ("hours", 3)], ("where",))

    def test_a_way_that_grows(self):
        before = [start(), ("leg", 1, 0, 0)]
        self.answered([0, 0, 1, 0, 1], before, ("where",))
        self.answered([0, 0, 1, 1, 5], [*before, ("leg", 4, 1, 1)], ("where",))
        self.answered([0, 0, 1, 0, 5], [*before, ("leg", 4, 0, 1)], ("where",))


class Ready(LineCase):
    BEFORE = [start(), *cabins(2), ("board", 3, 0, 0, 0), ("leg", 1, 0, 0), ("leg", 1, 5, 5)]

    def test_nobody_missing_and_the_gate_shut(self):
        self.answered([1, 0, 0, 0], self.BEFORE, ("ready",))
        self.answered([1, 0, 0, 0], AT_SEA, ("ready",))

    def test_the_gate_open(self):
        self.answered([0, 0, 1, 0], [*self.BEFORE, ("gate", 1)], ("ready",))

    def test_somebody_missing(self):
        self.answered([0, 1, 1, 0], [*self.BEFORE, ("gate", 1), ("scan", 1)], ("ready",))
        self.answered([0, 1, 0, 0], [*self.BEFORE, ("gate", 1), ("scan", 1), ("gate", 0)], ("ready",))
        self.answered([0, 2, 0, 0], [*self.BEFORE, ("gate", 1), ("scan", 1), ("scan", 2), ("gate", 0)], ("ready",))

    def test_those_gone_are_not_missing(self):
        gone = [*self.BEFORE, ("board", 1, 0, 0, 0), ("gate", 1), ("scan", 3), ("scan", 0), ("leave", 1), ("gate", 0)]
        self.answered([0, 1, 0, 0], gone, ("ready",))

    def test_how_much_later_in_all(self):
        late = [*self.BEFORE, ("gate", 1), ("hours", 2), ("hours", 3)]
        self.answered([0, 0, 1, 5], late, ("ready",))
        self.answered([1, 0, 0, 5], [*late, ("gate", 0), ("hours", 20)], ("ready",))


class Telling(LineCase):
    def test_telling_changes_nothing(self):
        before = [start(), *cabins(2), ("good", 1, 4), ("board", 3, 1, 0, 0), ("leg", 2, 0, 0), ("leg", 3, 5, 5)]
        told = play([*before, ("where",), ("ready",), ("where",), *PROBE])[len(before) + 3:]
        self.assertEqual(told, play([*before, *PROBE])[len(before):])
