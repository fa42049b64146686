from tests.line import BIG, WRONG, LineCase, cabins, play, start

LEAST = {"most": 1, "uses": 0, "fresh": 1, "makes": 1, "grey": 1, "black": 1, "room": 1, "last": 1}
MOST = {"most": 16, "uses": 80, "fresh": 10000000, "makes": 10000000, "grey": 10000000,
        "black": 10000000, "room": 1000000000, "last": 60}


class Start(LineCase):
    def test_each_number_at_its_bounds(self):
        self.answered([0], [], start(**LEAST))
        self.answered([0], [], start(**MOST))
        for name in LEAST:
            self.answered([0], [], start(**{**MOST, name: LEAST[name]}))
            self.answered([0], [], start(**{**LEAST, name: MOST[name]}))

    def test_each_number_past_its_bounds(self):
        for name in LEAST:
            wrong = [MOST[name] + 1, BIG] + ([0] if LEAST[name] == 1 else [])
            for number in wrong:
                self.assertEqual(self.last([start(**{name: number})]), [WRONG], (name, number))

    def test_refused_starts_ahead_of_the_first(self):
        parts = self.played([start(most=0), start(last=61), start(), ("where",)])
        self.assertEqual(parts, [[WRONG], [WRONG], [0], [0, 0, 1, 0, 0]])

    def test_all_is_as_at_first(self):
        before = [start()]
        self.answered([0, 0, 1, 0, 0], before, ("where",))
        self.answered([1, 0, 0, 0], before, ("ready",))
        self.answered([0], before, ("gate", 1))
        self.answered([0], before, ("set", 1, 0, 0))
        self.answered([1], before, ("drill",))
        self.answered([0], before, ("good", 1, 1))
        self.answered([0], before, ("cabin", 0, 0, 0, 1, 0))
        self.refused(-62, before, ("bunker", 1))
        self.refused(-12, before, ("ashore", 1, 0))
        self.refused(-12, before, ("ashore", 0, 1))

    def test_a_second_start_leaves_nothing(self):
        used = [start(), ("leg", 3, 0, 5), ("good", 1, 1), *cabins(1), ("board", 2, 0, 0, 0),
                ("load", 0, 5), ("set", 1, 1, 1), ("drill",), ("in", 0), ("gate", 1), ("scan", 1),
                ("leg", 2, 20, 9), ("hours", 30)]
        self.led_up(used)
        behind = [start(most=2, last=3), ("where",), ("ready",), ("set", 1, 0, 0), ("good", 1, 1),
                  *cabins(1), ("board", 2, 0, 0, 0), ("load", 0, 1), ("gate", 1), ("in", 0),
                  ("hours", 96), ("hours", 1), ("ready",)]
        self.assertEqual(play([*used, *behind])[len(used):], play(behind))

    def test_a_refused_second_start_leaves_all(self):
        used = [start(), ("leg", 3, 0, 5), ("good", 1, 1), *cabins(1), ("board", 2, 0, 0, 0),
                ("load", 0, 5), ("set", 1, 1, 1), ("drill",), ("in", 0), ("gate", 1), ("scan", 1),
                ("leg", 2, 20, 9), ("hours", 30)]
        for name in LEAST:
            self.refused(WRONG, used, start(**{name: MOST[name] + 1}))
