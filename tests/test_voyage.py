from tests.line import LATE, NONE, NUMBERS, TOLD, LineCase, cabins, play, start

# A voyage through three ports, with what each call must answer, reckoned by hand.
OUTSET = [
    (start(most=8, uses=5, fresh=2000, makes=60, grey=900, black=200, room=500, last=6), [0]),
    (("leg", 10, 0, 0), [10]), (("leg", 40, 20, 15), [50]), (("leg", 8, 0, 0), [58]), (("leg", 60, 6, 8), [118]),
    (("leg", 6, 0, 0), [124]), (("good", 4, 3), [0]), (("good", 2, 30), [1]), (("cabin", 1, 1, 1, 4, 0), [0]),
    (("cabin", 1, 2, 2, 2, 1), [1]), (("cabin", 2, 1, 1, 2, 0), [2]), (("board", 4, 2, 0, 0), [0, 0, 0, 0]),
    (("board", 2, 0, 0, 1), [1, 1, 4, 4]), (("cabins",), [1, 0b100, 3, 2]), (("least", 0), [48, 2]),
    (("least", 1), [24, 2]), (("short",), [2, 3]), (("load", 0, 48), [48, 3]), (("load", 1, 24), [24, 30]),
    (("short",), [0, 0]), (("drill",), [1]), (("in", 0), [5]), (("in", 1), [4]), (("in", 2), [3]), (("in", 3), [2]),
    (("search",), [2, 0b110000, 1]), (("gate", 1), [0]), (("scan", 4), [0, 4]),
]
# Person 4 is missing, and the gate open, when the ship would leave at hour 10: it leaves at hour 12.
FIRST_LEG = [
    (("hours", 9), [9, 0, 0, 1]), (("where",), [0, 0, 1, 1, 124]), (("ahead", 3), [1700, 3, 1, 0]),
    (("missing",), [1, 16]), (("hours", 2), [11, 2, 0, 1]), (("ready",), [0, 1, 1, 2]), (("scan", 4), [1, 4]),
    (("gate", 0), [1]), (("set", 1, 1, 1), [0]), (("state",), [11, 0, 5, 2, 2, 20, 0]),
    (("water",), [1725, 242, 33, 30]), (("hours", 1), [12, 0, 0, 0]), (("water",), [1695, 269, 36, 30]),
    (("hours", 40), [52, 0, 0, 1]), (("water",), [1970, 27, 3, 30]), (("stock", 0), [0, 48, 0, 0]),
    (("stock", 1), [0, 24, 0, 0]),
]
# Party 1 leaves, another comes.
SECOND_PORT = [
    (("least", 0), [72, 5]), (("gate", 1), [0]), (("scan", 4), [0, 4]), (("scan", 5), [0, 5]), (("leave", 1), [2]),
    (("board", 1, 0, 1, 0), [2, 2, 6, 6]), (("aboard",), [5, 0b1001111, 3]), (("party", 1), [NONE]),
    (("who", 5), [NONE]), (("who", 6), [6, 2, 0]), (("party", 2), [1, 64, 2]), (("cabins",), [1, 2, 3, 2]),
    (("search",), [1, 64, 1]), (("gate", 0), [1]), (("least", 0), [60, 5]), (("least", 1), [30, 5]),
    (("load", 0, 59), [59, 5]), (("load", 1, 30), [30, 32]), (("short",), [1, 1]), (("load", 0, 1), [60, 5]),
    (("short",), [0, 0]), (("sums",), [7, 2, 1475, 1505, 162, 2]),
]
# So near the shore black water may not go, and the tank gets full.
SECOND_LEG = [
    (("hours", 8), [60, 0, 0, 0]), (("water",), [1770, 203, 27, 25]), (("lasts",), [57]),
    (("ahead", 57), [345, 0, 0, 0]), (("ahead", 60), [325, 0, 1, 55]), (("hours", 60), [120, 0, 55, 1]),
    (("water",), [325, 0, 200, 25]), (("stock", 0), [0, 108, 0, 0]), (("stock", 1), [0, 54, 0, 0]),
]
LAST_PORT = [(("ashore", 0, 200), [0, 0]), (("bunker", 1675), [2000])]
THERE_AND_BACK = [(("back",), [19]), (("water",), [325, 0, 0, 25]), (("again",), [0]), (("water",), [2000, 0, 0, 25])]
LAST_DAYS = [
    (("least", 0), [20, 6]), (("lasts",), [40]),
    (("hours", 48), [168, 0, 170, 1]), (("hours", 1), [LATE]), (("water",), [970, 900, 130, 25]),
    (("stock", 0), [0, 108, 0, 40]), (("stock", 1), [0, 54, 0, 20]), (("sums",), [7, 2, 3150, 4180, 162, 2]),
    (("least", 0), [0, 7]), (("short",), [0, 0]), (("state",), [168, 7, 5, 2, 3, 20, 0]),
]
VOYAGE = [*OUTSET, *FIRST_LEG, *SECOND_PORT, *SECOND_LEG, *LAST_PORT, *THERE_AND_BACK, *LAST_DAYS]
CALLS = [call for call, answer in VOYAGE]
# Without what tells of changes, so that it's the same however many there are.
STRAIGHT = [pair for pair in [*OUTSET, *FIRST_LEG, *SECOND_PORT, *SECOND_LEG, *LAST_PORT, *LAST_DAYS]
            if pair[0] != ("state",)]


class Whole(LineCase):
    def test_the_voyage(self):
        for (call, answer), part in zip(VOYAGE, self.played(CALLS)):
            self.assertEqual(part, answer, call)

    def test_each_litre_and_each_unit(self):
        for number in range(len(OUTSET), len(CALLS) + 1):
            water, sums, first, second = play([*CALLS[:number], ("water",), ("sums",), ("stock", 0), ("stock", 1)])[-4:]
            self.assertEqual(2000 + sums[2], water[0] + sums[3])
            self.assertEqual(sums[4], sum(first[:3]) + sum(second[:3]))

    # The same voyage with other pieces of hours: what is told then is the same.
    def in_pieces(self, cut):
        at_once, bit_by_bit = [], []
        for call, answer in STRAIGHT:
            at_once.append(call)
            bit_by_bit += [("hours", n) for n in cut(call[1])] if call[0] == "hours" else [call]
            self.assertEqual(play([*at_once, *TOLD])[-len(TOLD):], play([*bit_by_bit, *TOLD])[-len(TOLD):])

    def test_hour_by_hour(self):
        self.in_pieces(lambda n: [1] * n)

    def test_in_two_pieces(self):
        self.in_pieces(lambda n: [n // 3, n - n // 3] if n > 2 else [n])

    def test_with_each_change_taken_back_and_done_again(self):
        changes = 0
        calls, meant = [], []
        for call, answer in STRAIGHT:
            calls.append(call)
            meant.append(answer)
            if 1 <= NUMBERS[call[0]] <= 14 and answer[0] >= 0:
                changes = min(changes + 1, 20)
                calls += [("back",), ("again",)]
                meant += [[changes - 1], [0]]
        self.assertEqual(self.played(calls), meant)


class LateEverywhere(LineCase):
    # Somebody else is missing in each port, an hour longer each time.
    def test_later_in_each_port(self):
        calls = [start(uses=1), *cabins(1), ("board", 3, 0, 0, 0)]
        for port in range(5):
            calls += [("leg", 2, 0, 0), ("leg", 3, 9, 9)]
        later = 0
        # Of the 21 hours three persons use in, one is ashore in 2 + 3 + 4.
        for port in range(3):
            calls += [("gate", 1), ("scan", port), ("gate", 0)]
            self.answered([5 * port + later + 2 + port, 1 + port, 0, 1], calls, ("hours", 2 + port))
            calls += [("hours", 2 + port), ("gate", 1), ("scan", port), ("gate", 0)]
            later += 1 + port
            self.answered([1, 0, 0, later], calls, ("ready",))
            self.answered([0, 0, 1, 1, 25 + later], calls, ("where",))
            self.answered([5 * port + 5 + later, 0, 0, 1], calls, ("hours", 4))
            calls += [("hours", 4)]
        self.answered([3, 0, 0, 3 * (15 + later) - 9, 0, later], calls, ("sums",))
