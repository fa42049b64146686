from tests.line import BIG, BUSY, FULL, WRONG, LineCase, cabins, start


class Legs(LineCase):
    def test_legs_stand_one_behind_another(self):
        parts = self.played([start(), ("leg", 4, 0, 0), ("leg", 10, 30, 20), ("leg", 1, 0, 7), ("where",)])
        self.assertEqual(parts[1:], [[4], [14], [15], [0, 0, 1, 0, 15]])

    def test_numbers_at_their_bounds(self):
        before = [start(), ("leg", 1, 0, 0)]
        self.answered([2], before, ("leg", 1, 0, 0))
        self.answered([501], before, ("leg", 500, 1000, 40))
        self.answered([2], before, ("leg", 1, 1, 0))

    def test_numbers_past_their_bounds(self):
        before = [start(), ("leg", 1, 0, 0)]
        for hours, miles, knots in [(0, 0, 0), (501, 0, 0), (BIG, 0, 0), (1, 1001, 0), (1, BIG, 0),
                                    (1, 0, 41), (1, 0, BIG), (BIG, BIG, BIG)]:
            self.refused(WRONG, before, ("leg", hours, miles, knots))

    def test_a_leg_at_sea_that_would_begin_now_or_before(self):
        self.refused(BUSY, [start()], ("leg", 5, 1, 5))
        self.refused(BUSY, [start(), ("leg", 2, 0, 0), ("hours", 2)], ("leg", 5, 1, 5))
        self.refused(BUSY, [start(), ("leg", 2, 0, 0), ("hours", 3)], ("leg", 5, 1, 5))
        self.answered([7], [start(), ("leg", 2, 0, 0), ("hours", 1)], ("leg", 5, 1, 5))

    def test_a_leg_at_sea_behind_one_at_sea(self):
        before = [start(), ("leg", 2, 0, 0), ("leg", 3, 5, 5), ("hours", 4)]
        self.answered([9], before, ("leg", 4, 8, 8))
        self.refused(BUSY, [*before, ("hours", 1)], ("leg", 4, 8, 8))

    def test_a_leg_in_port_may_begin_now_but_not_before(self):
        self.answered([7], [start(), ("leg", 2, 0, 0), ("hours", 2)], ("leg", 5, 0, 5))
        self.refused(BUSY, [start(), ("leg", 2, 0, 0), ("hours", 3)], ("leg", 5, 0, 5))
        self.refused(BUSY, [start(), ("hours", 1)], ("leg", 5, 0, 0))

    def test_ten_legs(self):
        ten = [start()] + [("leg", 1, 0, 0)] * 10
        self.led_up(ten)
        self.refused(FULL, ten, ("leg", 1, 0, 0))
        self.refused(FULL, ten, ("leg", 1, 5, 5))
        self.answered([10], ten[:-1], ("leg", 1, 0, 0))

    def test_which_refusal_is_told_first(self):
        ten = [start()] + [("leg", 1, 0, 0)] * 10
        self.refused(BUSY, [start()], ("leg", 0, 1, 0))
        self.refused(BUSY, [start()], ("leg", 1, 1001, 0))
        self.refused(BUSY, [start()], ("leg", 1, 1, 41))
        self.refused(BUSY, [*ten, ("hours", 10)], ("leg", 1, 1, 1))
        self.refused(WRONG, ten, ("leg", 0, 0, 0))
        self.refused(WRONG, [*ten, ("hours", 11)], ("leg", 1, 0, 41))
        self.refused(WRONG, [start(), ("hours", 1)], ("leg", 501, 0, 0))
        self.refused(FULL, [*ten, ("hours", 11)], ("leg", 1, 0, 0))

    def test_behind_a_leg_that_grew(self):
        late = [start(), ("gate", 1), ("leg", 1, 0, 0), ("leg", 1, 5, 5), ("hours", 4)]
        self.answered([7], late, ("leg", 1, 0, 0))


class Goods(LineCase):
    def test_goods_are_numbered(self):
        parts = self.played([start()] + [("good", 5, 5)] * 6)
        self.assertEqual(parts[1:], [[0], [1], [2], [3], [4], [5]])

    def test_numbers_at_their_bounds(self):
        for per, life in [(1, 1), (1000, 100), (1, 100), (1000, 1)]:
            self.answered([0], [start()], ("good", per, life))

    def test_numbers_past_their_bounds(self):
        for per, life in [(0, 1), (1001, 1), (BIG, 1), (1, 0), (1, 101), (1, BIG)]:
            self.refused(WRONG, [start()], ("good", per, life))

    def test_six_goods(self):
        six = [start()] + [("good", 5, 5)] * 6
        self.refused(FULL, six, ("good", 1, 1))
        self.refused(WRONG, six, ("good", 0, 1))
        self.refused(WRONG, six, ("good", 1, 101))

    def test_a_good_may_be_added_at_sea(self):
        self.answered([0], [start(), ("leg", 1, 0, 0), ("leg", 9, 9, 9), ("hours", 1)], ("good", 1, 1))


class Cabins(LineCase):
    def test_cabins_are_numbered(self):
        parts = self.played([start(), *cabins(12)])
        self.assertEqual(parts[1:], [[number] for number in range(12)])

    def test_numbers_at_their_bounds(self):
        for numbers in [(0, 0, 0, 1, 0), (20, 500, 3, 6, 1), (20, 0, 0, 1, 0), (0, 500, 0, 1, 0),
                        (0, 0, 3, 1, 0), (0, 0, 0, 6, 0), (0, 0, 0, 1, 1)]:
            self.answered([0], [start()], ("cabin", *numbers))

    def test_numbers_past_their_bounds(self):
        for numbers in [(21, 0, 0, 1, 0), (BIG, 0, 0, 1, 0), (0, 501, 0, 1, 0), (0, BIG, 0, 1, 0),
                        (0, 0, 4, 1, 0), (0, 0, BIG, 1, 0), (0, 0, 0, 0, 0), (0, 0, 0, 7, 0),
                        (0, 0, 0, BIG, 0), (0, 0, 0, 1, 2), (0, 0, 0, 1, BIG)]:
            self.refused(WRONG, [start()], ("cabin", *numbers))

    def test_no_two_at_one_place(self):
        before = [start(), ("cabin", 3, 40, 1, 2, 0)]
        self.refused(WRONG, before, ("cabin", 3, 40, 2, 3, 1))
        self.answered([1], before, ("cabin", 3, 41, 1, 2, 0))
        self.answered([1], before, ("cabin", 4, 40, 1, 2, 0))
        third = [*before, ("cabin", 4, 41, 0, 1, 0)]
        self.answered([2], third, ("cabin", 3, 41, 1, 2, 0))
        self.answered([2], third, ("cabin", 4, 40, 1, 2, 0))

    def test_twelve_cabins(self):
        twelve = [start(), *cabins(12)]
        self.refused(FULL, twelve, ("cabin", 2, 0, 0, 1, 0))
        self.refused(WRONG, twelve, ("cabin", 21, 0, 0, 1, 0))
        self.refused(WRONG, twelve, ("cabin", 1, 11, 0, 1, 0))
