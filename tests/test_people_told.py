from tests.line import AT_SEA, BIG, NO_DRILL, NONE, LineCase, cabins, start

# Three parties, of 2, 1 and 3, one child in the last; the gate open.
THREE = [start(most=9), *cabins(5), ("board", 2, 0, 0, 0), ("board", 1, 0, 0, 0), ("board", 3, 1, 0, 0), ("gate", 1)]
# The one in the midst gone for good.
GAP = [*THREE, ("scan", 2), ("leave", 1)]
SIXTEEN = [start(), *cabins(3), ("board", 6, 0, 0, 0), ("board", 6, 5, 0, 0), ("board", 4, 0, 0, 0), ("gate", 1)]
EMPTIED = [*SIXTEEN, *[("scan", card) for card in range(16)]]


class Aboard(LineCase):
    def test_nobody(self):
        self.answered([0, 0, 16], [start()], ("aboard",))
        self.answered([0, 0, 1], [start(most=1)], ("aboard",))
        self.answered([0, 0, 16], EMPTIED, ("aboard",))

    def test_some(self):
        self.answered([6, 63, 3], THREE, ("aboard",))
        self.answered([4, 0b101110, 5], [*THREE, ("scan", 0), ("scan", 4)], ("aboard",))
        self.answered([2, 3, 14], AT_SEA, ("aboard",))

    def test_all(self):
        self.answered([16, 65535, 0], SIXTEEN, ("aboard",))
        self.answered([2, 3, 0], [start(most=2), *cabins(1), ("board", 2, 0, 0, 0)], ("aboard",))

    def test_gone_between(self):
        self.answered([5, 0b111011, 4], GAP, ("aboard",))
        self.answered([6, 0b1111011, 3], [*GAP, ("board", 1, 0, 0, 0)], ("aboard",))
        self.answered([3, 0b111000, 6], [*GAP, ("scan", 0), ("scan", 1), ("leave", 0)], ("aboard",))

    def test_there_and_back(self):
        self.answered([6, 63, 3], [*THREE, ("scan", 2), ("scan", 2)], ("aboard",))


class Missing(LineCase):
    def test_nobody(self):
        self.answered([0, 0], [start()], ("missing",))
        self.answered([0, 0], THREE, ("missing",))
        self.answered([0, 0], AT_SEA, ("missing",))
        self.answered([0, 0], GAP, ("missing",))

    def test_some(self):
        self.answered([1, 4], [*THREE, ("scan", 2)], ("missing",))
        self.answered([3, 0b101001], [*THREE, ("scan", 0), ("scan", 3), ("scan", 5)], ("missing",))
        self.answered([1, 1], [*THREE, ("scan", 0), ("gate", 0)], ("missing",))

    def test_all(self):
        self.answered([16, 65535], EMPTIED, ("missing",))
        self.answered([15, 65534], [*EMPTIED, ("scan", 0)], ("missing",))

    def test_gone_between(self):
        self.answered([2, 0b1010], [*GAP, ("scan", 1), ("scan", 3)], ("missing",))
        self.answered([1, 64], [*GAP, ("board", 1, 0, 0, 0), ("scan", 6)], ("missing",))


class Search(LineCase):
    def test_no_drill(self):
        self.refused(NO_DRILL, [start()], ("search",))
        self.refused(NO_DRILL, THREE, ("search",))
        self.refused(NO_DRILL, [*THREE, ("drill",), ("back",)], ("search",))

    def test_all_at_first(self):
        self.answered([6, 63, 1], [*THREE, ("drill",)], ("search",))
        self.answered([16, 65535, 1], [*SIXTEEN, ("drill",)], ("search",))
        self.answered([0, 0, 1], [start(), ("drill",)], ("search",))
        self.answered([2, 3, 1], [*AT_SEA, ("drill",)], ("search",))

    def test_some(self):
        some = [*THREE, ("drill",), ("in", 1), ("in", 5), ("in", 2)]
        self.answered([3, 0b11001, 1], some, ("search",))
        self.answered([3, 0b11001, 1], [*some, ("hours", 1), ("in", 1)], ("search",))

    def test_none(self):
        every = [*THREE, ("drill",), *[("in", person) for person in range(6)]]
        self.answered([0, 0, 1], every, ("search",))
        self.answered([6, 63, 2], [*every, ("drill",)], ("search",))
        self.answered([0, 0, 1], [*EMPTIED, ("drill",)], ("search",))

    def test_those_ashore_or_gone_are_not_searched_for(self):
        self.answered([5, 0b111110, 1], [*THREE, ("drill",), ("scan", 0)], ("search",))
        self.answered([6, 63, 1], [*THREE, ("drill",), ("scan", 0), ("scan", 0)], ("search",))
        self.answered([5, 0b111011, 1], [*GAP, ("drill",)], ("search",))
        self.answered([5, 0b111011, 1], [*THREE, ("drill",), ("scan", 2), ("leave", 1)], ("search",))
        self.answered([3, 0b110010, 1], [*GAP, ("drill",), ("in", 3), ("scan", 0)], ("search",))

    def test_who_came_in_stays_in_through_the_gate(self):
        self.answered([5, 0b111101, 1], [*THREE, ("drill",), ("in", 1), ("scan", 1), ("scan", 1)], ("search",))

    def test_who_boards_in_a_drill_is_searched_for(self):
        self.answered([2, 0b1100000, 1], [*THREE, ("drill",), *[("in", person) for person in range(5)],
                                          ("board", 1, 0, 0, 0)], ("search",))

    def test_which_drill(self):
        self.answered([6, 63, 3], [*THREE, ("drill",), ("in", 0), ("drill",), ("drill",)], ("search",))
        self.answered([0, 0, 20], [start(), *[("drill",)] * 20], ("search",))

    def test_as_many_as_cr_in_tells(self):
        calls = [*GAP, ("drill",)]
        for person in (4, 0, 3, 1, 5):
            parts = self.played([*calls, ("in", person), ("search",)])
            self.assertEqual(parts[-2][0], parts[-1][0])
            calls += [("in", person)]


class Who(LineCase):
    def test_whose_card_it_is(self):
        for card, party in enumerate((0, 0, 1, 2, 2, 2)):
            self.answered([card, party, 0], THREE, ("who", card))
        self.answered([15, 2, 0], SIXTEEN, ("who", 15))

    def test_ashore(self):
        self.answered([2, 1, 1], [*THREE, ("scan", 2)], ("who", 2))
        self.answered([3, 2, 0], [*THREE, ("scan", 2)], ("who", 3))
        self.answered([5, 2, 1], [*THREE, ("scan", 3), ("scan", 5)], ("who", 5))
        self.answered([2, 1, 0], [*THREE, ("scan", 2), ("scan", 2)], ("who", 2))

    def test_there_is_none(self):
        for before, card in [([start()], 0), ([start()], BIG), (THREE, 6), (THREE, 16), (THREE, BIG), (GAP, 2),
                             (SIXTEEN, 16), ([*THREE, ("scan", 9)], 9)]:
            self.refused(NONE, before, ("who", card))

    def test_gone_between(self):
        self.answered([1, 0, 0], GAP, ("who", 1))
        self.answered([3, 2, 0], GAP, ("who", 3))
        self.answered([6, 3, 0], [*GAP, ("board", 1, 0, 0, 0)], ("who", 6))


class Party(LineCase):
    def test_its_persons_and_its_cabin(self):
        self.answered([2, 3, 0], THREE, ("party", 0))
        self.answered([1, 4, 1], THREE, ("party", 1))
        self.answered([3, 0b111000, 2], THREE, ("party", 2))
        for party, told in enumerate([[6, 0b111111, 0], [6, 0b111111000000, 1], [4, 0b1111000000000000, 2]]):
            self.answered(told, SIXTEEN, ("party", party))
            self.answered(told, EMPTIED, ("party", party))

    def test_there_is_none(self):
        for before, party in [([start()], 0), ([start()], BIG), (THREE, 3), (THREE, 8), (THREE, BIG), (GAP, 1)]:
            self.refused(NONE, before, ("party", party))

    def test_gone_between(self):
        self.answered([2, 3, 0], GAP, ("party", 0))
        self.answered([3, 0b111000, 2], GAP, ("party", 2))
        self.answered([2, 0b11000000, 1], [*GAP, ("board", 2, 0, 0, 0)], ("party", 3))

    def test_the_cabin_they_got(self):
        built = [start(), ("cabin", 1, 1, 3, 4, 1), ("cabin", 1, 2, 1, 2, 0), ("board", 2, 0, 0, 1),
                 ("board", 1, 0, 1, 0)]
        self.answered([2, 3, 0], built, ("party", 0))
        self.answered([1, 4, 1], built, ("party", 1))


class Cabins(LineCase):
    def test_none_are_built(self):
        self.answered([0, 0, 0, 0], [start()], ("cabins",))

    def test_nobody_has_one(self):
        self.answered([1, 1, 1, 0], [start(), *cabins(1)], ("cabins",))
        self.answered([12, 4095, 12, 0], [start(), *cabins(12)], ("cabins",))

    def test_some_have_one(self):
        self.answered([2, 0b11000, 5, 3], THREE, ("cabins",))
        eight = [start(), *cabins(12), *[("board", 1, 0, 0, 0)] * 8]
        self.answered([4, 0b111100000000, 12, 8], eight, ("cabins",))
        better = [start(), ("cabin", 1, 1, 2, 2, 0), ("cabin", 1, 2, 1, 2, 0), ("cabin", 1, 3, 3, 2, 0),
                  ("board", 1, 0, 1, 0)]
        self.answered([2, 0b101, 3, 1], better, ("cabins",))

    def test_all_have_one(self):
        self.answered([0, 0, 3, 3], SIXTEEN, ("cabins",))

    def test_those_ashore_keep_theirs(self):
        self.answered([0, 0, 3, 3], EMPTIED, ("cabins",))

    def test_gone_between(self):
        self.answered([3, 0b11010, 5, 2], GAP, ("cabins",))
        self.answered([2, 0b11000, 5, 3], [*GAP, ("board", 1, 0, 0, 0)], ("cabins",))
        self.answered([3, 7, 3, 0], [*EMPTIED, *[("leave", party) for party in range(3)]], ("cabins",))
