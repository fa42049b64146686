from cruiseship.people_calls import cr_drill, cr_scan

from tests.line import AT_SEA, BIG, BUSY, FULL, NO_DRILL, NONE, ROOM, SO, UNFIT, WRONG
from tests.line import LineCase, bare_vessel, cabins, play, start, voyage_behind


def sea(before):
    return [*before, ("leg", 1, 0, 0), ("leg", 9, 12, 10), ("hours", 1)]


class Board(LineCase):
    def test_persons_and_cards_are_numbered_as_they_come(self):
        parts = self.played([start(), *cabins(3), ("board", 3, 1, 0, 0), ("board", 1, 0, 0, 0),
                             ("board", 6, 5, 0, 0)])
        self.assertEqual(parts[4:], [[0, 0, 0, 0], [1, 1, 3, 3], [2, 2, 4, 4]])

    def test_numbers_at_their_bounds(self):
        before = [start(), *cabins(1)]
        for numbers in [(1, 0, 0, 0), (6, 0, 0, 0), (6, 5, 0, 0), (2, 1, 3, 1)]:
            self.answered([0, 0, 0, 0], before, ("board", *numbers))

    def test_numbers_past_their_bounds(self):
        before = [start(), *cabins(1)]
        for numbers in [(0, 0, 0, 0), (7, 0, 0, 0), (BIG, 0, 0, 0), (1, 1, 0, 0), (6, 6, 0, 0),
                        (2, 3, 0, 0), (2, BIG, 0, 0), (1, 0, 4, 0), (1, 0, BIG, 0), (1, 0, 0, 2),
                        (1, 0, 0, BIG)]:
            self.refused(WRONG, before, ("board", *numbers))

    def test_at_sea(self):
        self.refused(BUSY, AT_SEA, ("board", 1, 0, 0, 0))
        self.answered([1, 1, 2, 2], [*AT_SEA, ("hours", 5)], ("board", 1, 0, 0, 0))

    def test_eight_parties_ever(self):
        eight = [start(), *cabins(12)] + [("board", 1, 0, 0, 0)] * 8
        self.answered([7, 7, 7, 7], eight[:-1], ("board", 1, 0, 0, 0))
        self.refused(FULL, eight, ("board", 1, 0, 0, 0))
        gone = [*eight, ("gate", 1), ("scan", 0), ("leave", 0)]
        self.refused(FULL, gone, ("board", 1, 0, 0, 0))

    def test_sixteen_persons_ever(self):
        fourteen = [start(), *cabins(12), ("board", 6, 0, 0, 0), ("board", 6, 0, 0, 0), ("board", 2, 0, 0, 0)]
        self.answered([3, 3, 14, 14], fourteen, ("board", 2, 0, 0, 0))
        self.refused(FULL, fourteen, ("board", 3, 0, 0, 0))
        gone = [*fourteen, ("gate", 1), ("scan", 12), ("scan", 13), ("leave", 2)]
        self.refused(FULL, gone, ("board", 3, 0, 0, 0))
        self.answered([3, 2, 14, 14], gone, ("board", 2, 0, 0, 0))

    def test_as_many_aboard_as_may_be(self):
        before = [start(most=4), *cabins(3), ("board", 2, 0, 0, 0)]
        self.answered([1, 1, 2, 2], before, ("board", 2, 0, 0, 0))
        self.refused(ROOM, before, ("board", 3, 0, 0, 0))
        one_ashore = [*before, ("gate", 1), ("scan", 1)]
        self.answered([1, 1, 2, 2], one_ashore, ("board", 3, 0, 0, 0))
        self.refused(ROOM, one_ashore, ("board", 4, 0, 0, 0))

    def test_no_cabin_does(self):
        self.refused(UNFIT, [start()], ("board", 1, 0, 0, 0))
        self.refused(UNFIT, [start(), *cabins(1, berths=2)], ("board", 3, 0, 0, 0))
        self.refused(UNFIT, [start(), *cabins(1, rank=2)], ("board", 1, 0, 3, 0))
        self.refused(UNFIT, [start(), *cabins(1, flat=0)], ("board", 1, 0, 0, 1))
        self.refused(UNFIT, [start(), *cabins(1), ("board", 1, 0, 0, 0)], ("board", 1, 0, 0, 0))

    def test_a_cabin_that_just_does(self):
        self.answered([0, 0, 0, 0], [start(), *cabins(1, berths=3, rank=2, flat=1)], ("board", 3, 0, 2, 1))
        self.answered([0, 0, 0, 0], [start(), *cabins(1, berths=3, rank=2, flat=1)], ("board", 3, 0, 2, 0))
        self.answered([0, 0, 0, 0], [start(), *cabins(1, berths=3, rank=2, flat=0)], ("board", 3, 0, 2, 0))

    def test_which_cabin_they_get(self):
        built = [start(), ("cabin", 1, 1, 3, 2, 1), ("cabin", 1, 2, 1, 6, 1), ("cabin", 1, 3, 1, 4, 0),
                 ("cabin", 1, 4, 2, 2, 1), ("cabin", 1, 5, 1, 4, 1), ("cabin", 1, 6, 0, 2, 0)]
        got = lambda *party: self.last([*built, ("board", *party)])[1]
        self.assertEqual(got(2, 0, 0, 0), 5)
        self.assertEqual(got(2, 0, 1, 0), 2)
        self.assertEqual(got(2, 0, 1, 1), 4)
        self.assertEqual(got(2, 0, 0, 1), 4)
        self.assertEqual(got(5, 0, 0, 0), 1)
        self.assertEqual(got(2, 0, 2, 0), 3)
        self.assertEqual(got(2, 0, 3, 1), 0)
        self.assertEqual(got(3, 0, 0, 0), 2)
        one_by_one = play([*built] + [("board", 2, 0, 0, 0)] * 6)[-6:]
        self.assertEqual([part[1] for part in one_by_one], [5, 2, 4, 1, 3, 0])

    def test_a_cabin_is_free_again_when_they_are_gone(self):
        before = [start(), *cabins(1), ("board", 2, 0, 0, 0), ("gate", 1), ("scan", 0), ("scan", 1)]
        self.refused(UNFIT, before, ("board", 1, 0, 0, 0))
        self.answered([1, 0, 2, 2], [*before, ("leave", 0)], ("board", 1, 0, 0, 0))
        again = [*before, ("leave", 0), ("board", 1, 0, 0, 0)]
        self.refused(UNFIT, again, ("board", 1, 0, 0, 0))

    def test_which_refusal_is_told_first(self):
        eight = [start(most=8), *cabins(12)] + [("board", 1, 0, 0, 0)] * 8
        self.refused(WRONG, AT_SEA, ("board", 0, 0, 0, 0))
        self.refused(WRONG, eight, ("board", 1, 1, 0, 0))
        self.refused(WRONG, [start(most=1), *cabins(1)], ("board", 7, 0, 0, 0))
        self.refused(WRONG, [start()], ("board", 1, 0, 4, 0))
        self.refused(BUSY, sea(eight), ("board", 1, 0, 0, 0))
        self.refused(BUSY, sea([start(most=1), *cabins(1)]), ("board", 2, 0, 0, 0))
        self.refused(BUSY, sea([start()]), ("board", 1, 0, 0, 0))
        self.refused(FULL, eight, ("board", 1, 0, 0, 0))
        full = [start(), *cabins(3), ("board", 6, 0, 0, 0), ("board", 6, 0, 0, 0), ("board", 4, 0, 0, 0)]
        self.refused(FULL, full, ("board", 1, 0, 0, 0))
        self.refused(ROOM, [start(most=1)], ("board", 2, 0, 0, 0))


class Leave(LineCase):
    BEFORE = [start(), *cabins(3), ("board", 3, 1, 0, 0), ("board", 1, 0, 0, 0), ("gate", 1), ("scan", 0),
              ("scan", 1)]

    def test_they_leave_when_all_are_ashore(self):
        self.refused(BUSY, self.BEFORE, ("leave", 0))
        self.answered([3], [*self.BEFORE, ("scan", 2)], ("leave", 0))
        self.answered([1], [*self.BEFORE, ("scan", 3)], ("leave", 1))
        self.refused(BUSY, self.BEFORE, ("leave", 1))

    def test_there_is_none(self):
        self.refused(NONE, self.BEFORE, ("leave", 2))
        self.refused(NONE, self.BEFORE, ("leave", BIG))
        self.refused(NONE, [start()], ("leave", 0))
        self.refused(NONE, [*self.BEFORE, ("scan", 2), ("leave", 0)], ("leave", 0))

    def test_who_is_gone_is_not_missing(self):
        gone = [*self.BEFORE, ("scan", 2), ("leave", 0), ("gate", 0)]
        self.answered([0, 3, 1, 0], [*self.BEFORE, ("scan", 2)], ("ready",))
        self.answered([1, 0, 0, 0], gone, ("ready",))

    def test_at_sea_they_are_all_aboard(self):
        self.refused(BUSY, AT_SEA, ("leave", 0))


class Gate(LineCase):
    def test_it_is_opened_and_shut(self):
        parts = self.played([start(), ("gate", 1), ("ready",), ("gate", 0), ("ready",), ("gate", 1)])
        self.assertEqual(parts[1:], [[0], [0, 0, 1, 0], [1], [1, 0, 0, 0], [0]])

    def test_opened_is_above_one(self):
        self.refused(WRONG, [start()], ("gate", 2))
        self.refused(WRONG, [start(), ("gate", 1)], ("gate", BIG))

    def test_at_sea(self):
        self.refused(BUSY, AT_SEA, ("gate", 1))
        self.refused(SO, AT_SEA, ("gate", 0))
        self.refused(WRONG, AT_SEA, ("gate", 2))
        self.answered([0], [*AT_SEA, ("hours", 5)], ("gate", 1))

    def test_it_is_so(self):
        self.refused(SO, [start()], ("gate", 0))
        self.refused(SO, [start(), ("gate", 1)], ("gate", 1))


class Scan(LineCase):
    BEFORE = [start(most=4), *cabins(3), ("board", 3, 2, 0, 0), ("board", 1, 0, 0, 0), ("gate", 1)]

    def test_out_and_in(self):
        parts = self.played([*self.BEFORE, ("scan", 3), ("ready",), ("scan", 3), ("ready",), ("scan", 3)])
        self.assertEqual(parts[-5:], [[0, 3], [0, 1, 1, 0], [1, 3], [0, 0, 1, 0], [0, 3]])

    def test_the_gate_is_shut(self):
        shut = [*self.BEFORE, ("gate", 0)]
        for card in (0, 1, 3, 4, BIG):
            self.refused(BUSY, shut, ("scan", card))
        full = [*self.BEFORE, ("scan", 3), ("board", 1, 0, 0, 0), ("gate", 0)]
        self.refused(BUSY, full, ("scan", 3))
        self.refused(BUSY, AT_SEA, ("scan", 0))

    def test_a_card_of_nobody(self):
        self.answered([2, 0], self.BEFORE, ("scan", 4))
        self.answered([2, 0], self.BEFORE, ("scan", BIG))
        self.answered([2, 0], [start(), ("gate", 1)], ("scan", 0))
        self.answered([2, 0], [*self.BEFORE, ("scan", 3), ("leave", 1)], ("scan", 3))

    def test_as_many_are_aboard_as_may_be(self):
        full = [*self.BEFORE, ("scan", 3), ("board", 1, 0, 0, 0)]
        self.refused(ROOM, full, ("scan", 3))
        self.answered([1, 3], [*full, ("scan", 4)], ("scan", 3))
        self.answered([2, 0], full, ("scan", 5))

    def test_a_child_goes_ashore_behind_the_first(self):
        self.refused(UNFIT, self.BEFORE, ("scan", 1))
        self.refused(UNFIT, self.BEFORE, ("scan", 2))
        self.answered([0, 0], self.BEFORE, ("scan", 0))
        self.answered([0, 1], [*self.BEFORE, ("scan", 0)], ("scan", 1))
        self.answered([0, 2], [*self.BEFORE, ("scan", 0)], ("scan", 2))
        self.refused(UNFIT, [*self.BEFORE, ("scan", 3)], ("scan", 1))
        self.refused(UNFIT, [*self.BEFORE, ("scan", 0), ("scan", 0)], ("scan", 1))

    def test_a_child_comes_aboard_by_itself(self):
        out = [*self.BEFORE, ("scan", 0), ("scan", 1)]
        self.answered([1, 1], out, ("scan", 1))
        self.refused(UNFIT, [*out, ("scan", 0), ("scan", 1)], ("scan", 1))

    def test_who_is_a_child(self):
        party = [start(), *cabins(2), ("board", 1, 0, 0, 0), ("board", 5, 2, 0, 0), ("gate", 1)]
        for person in (1, 2, 3):
            self.answered([0, person], party, ("scan", person))
        self.refused(UNFIT, party, ("scan", 4))
        self.refused(UNFIT, party, ("scan", 5))
        self.refused(UNFIT, [*party, ("scan", 2)], ("scan", 4))
        self.answered([0, 4], [*party, ("scan", 1)], ("scan", 4))

    # A line is too short for these bounds, so the counts are set by hand.
    def test_one_hundred_thousand(self):
        for name in ("gone_out", "come_in", "not_counted"):
            vessel = bare_vessel()
            vessel.people.gate = 1
            setattr(vessel.people, name, 99999)
            self.assertEqual(cr_scan(vessel, 0), [2, 0])
            setattr(vessel.people, name, 100000)
            self.assertEqual(cr_scan(vessel, 0), [FULL])
            vessel.people.gate = 0
            self.assertEqual(cr_scan(vessel, 0), [BUSY])

    def test_each_showing_is_counted(self):
        calls = [*self.BEFORE, ("scan", 3), ("scan", 3), ("scan", 3), ("scan", 9), ("scan", 9), ("scan", 9)]
        people = voyage_behind(calls).vessel.people
        self.assertEqual((people.gone_out, people.come_in, people.not_counted), (2, 1, 3))


class Drill(LineCase):
    BEFORE = [start(), *cabins(3), ("board", 3, 1, 0, 0), ("board", 1, 0, 0, 0)]
    DRILL = [*BEFORE, ("drill",)]

    def test_drills_are_numbered(self):
        self.assertEqual(self.played([start(), ("drill",), ("drill",), ("drill",)])[1:], [[1], [2], [3]])
        self.answered([1], AT_SEA, ("drill",))

    # A line is too short for a thousand drills and one more.
    def test_a_thousand_drills(self):
        vessel = bare_vessel()
        vessel.people.drill = 999
        self.assertEqual(cr_drill(vessel), [1000])
        self.assertEqual(cr_drill(vessel), [FULL])
        self.assertEqual(vessel.people.drill, 1000)

    def test_a_line_of_drills(self):
        self.assertEqual(self.last([start()] + [("drill",)] * 999), [999])

    def test_they_come_in(self):
        parts = self.played([*self.DRILL, ("in", 2), ("in", 0), ("in", 3), ("in", 1)])
        self.assertEqual(parts[-4:], [[3], [2], [1], [0]])

    def test_there_is_none(self):
        self.refused(NONE, self.DRILL, ("in", 4))
        self.refused(NONE, self.DRILL, ("in", BIG))
        self.refused(NONE, self.BEFORE, ("in", 4))
        gone = [*self.DRILL, ("gate", 1), ("scan", 3), ("leave", 1)]
        self.refused(NONE, gone, ("in", 3))

    def test_ashore(self):
        out = [("gate", 1), ("scan", 3)]
        self.refused(BUSY, [*self.DRILL, *out], ("in", 3))
        self.refused(BUSY, [*self.BEFORE, *out], ("in", 3))
        self.refused(BUSY, [*self.DRILL, ("in", 3), *out], ("in", 3))

    def test_no_drill(self):
        self.refused(NO_DRILL, self.BEFORE, ("in", 0))

    def test_once_a_minute(self):
        self.refused(SO, [*self.DRILL, ("in", 0)], ("in", 0))
        self.answered([3], [*self.DRILL, ("in", 0), ("hours", 1)], ("in", 0))
        self.refused(SO, [*self.DRILL, ("in", 0), ("hours", 1), ("in", 0)], ("in", 0))
        self.answered([2], [*self.DRILL, ("in", 0)], ("in", 1))

    def test_nobody_is_in_when_the_next_one_begins(self):
        second = [*self.DRILL, ("in", 0), ("in", 1), ("drill",)]
        self.answered([3], second, ("in", 0))
        self.answered([3], second, ("in", 2))

    def test_only_those_aboard_are_searched_for(self):
        out = [*self.DRILL, ("gate", 1), ("scan", 3)]
        self.answered([2], out, ("in", 0))
        self.answered([3], [*out, ("scan", 3)], ("in", 0))
        gone = [*out, ("leave", 1)]
        self.answered([2], gone, ("in", 0))

    def test_who_came_in_stays_in_through_the_gate(self):
        there_and_back = [*self.DRILL, ("in", 3), ("gate", 1), ("scan", 3), ("scan", 3)]
        self.answered([2], there_and_back, ("in", 0))
        self.refused(SO, there_and_back, ("in", 3))

    def test_who_boards_in_a_drill_is_searched_for(self):
        self.answered([4], [*self.DRILL, ("board", 1, 0, 0, 0)], ("in", 0))
        self.answered([4], [*self.DRILL, ("board", 1, 0, 0, 0)], ("in", 4))
