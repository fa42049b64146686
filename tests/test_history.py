from tests.line import NONE, TOLD, WRONG, LineCase, cabins, play, start

# Each of the calls that change something, none refused; cards that don't count among them.
CHANGES = [
    ("leg", 30, 0, 0), ("good", 3, 2), ("cabin", 1, 1, 2, 4, 1), ("cabin", 1, 2, 2, 4, 1), ("board", 3, 1, 0, 0),
    ("load", 0, 50), ("gate", 1), ("scan", 0), ("scan", 9), ("scan", 1), ("scan", 2), ("scan", 0), ("leg", 3, 12, 12),
    ("scan", 2), ("scan", 1), ("board", 1, 0, 0, 0), ("hours", 29), ("scan", 3), ("leave", 1), ("hours", 3),
    ("load", 0, 7), ("load", 0, 7), ("bunker", 9), ("ashore", 5, 1), ("set", 1, 1, 1), ("drill",), ("in", 0),
    ("hours", 1), ("in", 0), ("drill",), ("gate", 0), ("hours", 30), ("good", 4, 4), ("hours", 24),
]
# Calls that are none: what is told, and what is refused, in every ship that CHANGES leads through.
NO_CHANGES = [
    *TOLD, ("state",), ("leg", 0, 0, 0), ("good", 0, 0), ("cabin", 21, 0, 0, 1, 0), ("board", 0, 0, 0, 0), ("leave", 7),
    ("gate", 2), ("load", 6, 1), ("bunker", 0), ("ashore", 0, 0), ("set", 2, 0, 0), ("in", 16), ("hours", 0),
    start(most=17),
]
REFUSED_ALWAYS = NO_CHANGES[len(TOLD) + 1:]


def told_behind(calls):
    return play([*calls, *TOLD])[-len(TOLD):]


class Back(LineCase):
    def test_nothing_to_take_back(self):
        self.refused(NONE, [start()], ("back",))
        self.refused(NONE, [start(), ("drill",), ("back",)], ("back",))
        self.assertEqual(self.last([start(), ("leg", 0, 0, 0), ("where",), ("back",)]), [NONE])
        self.refused(NONE, [start(), ("drill",), start()], ("back",))

    def test_how_many_can_still_be(self):
        parts = self.played([start(), *[("drill",)] * 3, *[("back",)] * 4])
        self.assertEqual(parts[-4:], [[2], [1], [0], [NONE]])

    def test_each_kind_of_change(self):
        names = {call[0] for call in CHANGES}
        self.assertEqual(len(names), 14)
        for number in range(len(CHANGES)):
            before = [start(), *CHANGES[:number]]
            change = CHANGES[number]
            self.led_up([*before, change])
            self.assertEqual(told_behind([*before, change, ("back",)]), told_behind(before), change)
            self.assertEqual(told_behind([*before, change, ("back",), ("again",)]), told_behind([*before, change]))

    # A card that doesn't count shows nowhere but in how many changes there are.
    def test_a_card_that_does_not_count_is_a_change(self):
        before = [start(), ("gate", 1)]
        self.answered([0, 0, 0, 0, 0, 2, 0], [*before, ("scan", 3)], ("state",))
        self.answered([1], [*before, ("scan", 3)], ("back",))

    def test_the_last_twenty(self):
        twenty = [start(), *[("drill",)] * 20]
        self.assertEqual(self.played([*twenty, *[("back",)] * 21])[-21:], [[k] for k in range(19, -1, -1)] + [[NONE]])
        self.assertEqual(self.last([*twenty, *[("back",)] * 20, ("drill",)]), [1])
        twenty_one = [*twenty, ("drill",)]
        told = self.played([*twenty_one, *[("back",)] * 21])[-21:]
        self.assertEqual(told, [[k] for k in range(19, -1, -1)] + [[NONE]])
        self.assertEqual(self.last([*twenty_one, *[("back",)] * 20, ("drill",)]), [2])
        self.assertEqual(self.last([start(), *[("drill",)] * 45, *[("back",)] * 20, ("drill",)]), [26])

    def test_all_the_way_back_and_again(self):
        last_twenty = CHANGES[-20:]
        before = [start(), *CHANGES[:-20]]
        for number in range(1, 21):
            back = [*before, *last_twenty, *[("back",)] * number]
            left = [*before, *last_twenty[:20 - number]]
            self.assertEqual(self.last(back), [20 - number])
            self.assertEqual(told_behind(back), told_behind(left))
            self.assertEqual(self.last([*back, *[("again",)] * number]), [0])
            self.assertEqual(told_behind([*back, *[("again",)] * number]), told_behind([*before, *last_twenty]))

    # What happens behind a change that was taken back is as if it had never been.
    def test_the_way_on_is_as_if_it_had_not_been(self):
        for number, change in enumerate(CHANGES):
            before = [start(), *CHANGES[:number]]
            rest = [("drill",), *CHANGES[number:]]
            self.assertEqual(play([*before, change, ("back",), *rest])[len(before) + 2:],
                             play([*before, *rest])[len(before):])

    def test_more_changes_than_twenty_with_some_taken_back(self):
        before = [start(), *[("drill",)] * 25, *[("back",)] * 5]
        self.answered([0, 0, 0, 0, 0, 15, 5], before, ("state",))
        self.answered([0, 0, 0, 0, 0, 20, 0], [*before, *[("drill",)] * 5], ("state",))
        self.answered([0, 0, 0, 0, 0, 20, 0], [*before, *[("drill",)] * 6], ("state",))
        self.answered([0, 0, 0, 0, 0, 20, 0], [*before, *[("again",)] * 5], ("state",))


class Again(LineCase):
    def test_nothing_to_do_again(self):
        self.refused(NONE, [start()], ("again",))
        self.refused(NONE, [start(), ("drill",)], ("again",))
        self.refused(NONE, [start(), ("drill",), ("back",), ("again",)], ("again",))
        self.refused(NONE, [start(), ("drill",), ("back",), start()], ("again",))

    def test_how_many_there_still_are(self):
        parts = self.played([start(), *[("drill",)] * 3, *[("back",)] * 3, *[("again",)] * 4])
        self.assertEqual(parts[-4:], [[2], [1], [0], [NONE]])
        self.assertEqual(self.last([start(), *[("drill",)] * 21, *[("back",)] * 20, ("again",)]), [19])

    def test_the_one_that_was_taken_back_last(self):
        before = [start(), ("gate", 1), ("drill",), ("set", 1, 0, 0), *[("back",)] * 3]
        self.answered([0, 0, 1, 0], [*before, ("again",)], ("ready",))
        self.refused(-6, [*before, ("again",)], ("search",))
        self.answered([0, 0, 1], [*before, ("again",), ("again",)], ("search",))
        self.answered([0], [*before, ("again",), ("again",)], ("set", 0, 0, 1))
        self.answered([1], [*before, *[("again",)] * 3], ("set", 0, 0, 1))

    def test_till_another_change_is_made(self):
        back = [start(), ("drill",), ("drill",), ("back",), ("back",)]
        self.refused(NONE, [*back, ("gate", 1)], ("again",))
        self.answered([0, 0, 0, 0, 0, 1, 0], [*back, ("gate", 1)], ("state",))
        self.refused(NONE, [*back, ("again",), ("gate", 1)], ("again",))
        self.answered([0, 0, 0, 0, 0, 2, 0], [*back, ("again",), ("gate", 1)], ("state",))
        self.refused(NONE, [*back, ("drill",)], ("again",))
        self.refused(NONE, [*back, ("gate", 1), ("back",), ("again",)], ("again",))
        self.answered([0], [*back, ("gate", 1), ("back",)], ("again",))

    def test_each_kind_of_change_forgets_them(self):
        for number, change in enumerate(CHANGES):
            before = [start(), *CHANGES[:number], ("drill",), ("back",), change]
            self.assertEqual(self.played([*before, ("again",)])[-1], [NONE], change)

    def test_a_refusal_or_telling_in_between_does_not(self):
        back = [start(), *CHANGES[:26], ("back",), ("back",)]
        for call in NO_CHANGES:
            self.assertEqual(self.last([*back, call, ("again",)]), [1], call)
            self.assertEqual(told_behind([*back, call, ("again",), ("again",)]), told_behind([start(), *CHANGES[:26]]))

    def test_done_again_is_what_was_done(self):
        late = [start(uses=10), *cabins(1), ("board", 3, 0, 0, 0), ("leg", 1, 0, 0), ("leg", 4, 5, 5), ("gate", 1),
                ("hours", 3)]
        self.assertEqual(told_behind([*late, ("back",), ("back",), ("again",), ("again",)]), told_behind(late))
        self.answered([0, 0, 1, 3], [*late, ("back",), ("back",), ("again",), ("again",)], ("ready",))
        self.answered([1, 0, 0, 0], [*late, ("back",), ("back",)], ("ready",))


class Starts(LineCase):
    USED = [start(), ("drill",), ("gate", 1), ("drill",), ("back",)]

    def test_a_start_leaves_no_changes(self):
        self.answered([0, 0, 0, 0, 0, 0, 0], [*self.USED, start()], ("state",))
        self.refused(NONE, [*self.USED, start()], ("back",))
        self.refused(NONE, [*self.USED, start()], ("again",))
        self.answered([0, 0, 0, 0, 0, 1, 0], [*self.USED, start(), ("drill",)], ("state",))
        self.answered([0], [*self.USED, start(), ("drill",)], ("back",))

    def test_a_start_that_is_refused_leaves_them(self):
        self.refused(WRONG, self.USED, start(last=61))
        parts = self.played([*self.USED, start(last=61), ("state",), ("again",), ("back",), ("back",), ("back",)])
        self.assertEqual(parts[-6:], [[WRONG], [0, 0, 0, 0, 0, 2, 1], [0], [2], [1], [0]])


class State(LineCase):
    def test_at_first(self):
        self.answered([0, 0, 0, 0, 0, 0, 0], [start()], ("state",))

    def test_which_day(self):
        for hours, day in [(1, 0), (23, 0), (24, 1), (47, 1), (48, 2), (240, 10)]:
            self.answered([hours, day, 0, 0, 0, 1, 0], [start(), ("hours", hours)], ("state",))
        self.answered([48, 2, 0, 0, 0, 1, 0], [start(last=1), ("hours", 48)], ("state",))
        self.answered([1464, 61, 0, 0, 0, 7, 0], [start(), *[("hours", 240)] * 6, ("hours", 24)], ("state",))

    def test_how_many(self):
        before = [start(), *[("leg", 5, 0, 0)] * 3, *[("good", 1, 1)] * 2, *cabins(4), *[("board", 1, 0, 0, 0)] * 4]
        self.answered([0, 0, 3, 2, 4, 13, 0], before, ("state",))
        most = [start(), *[("leg", 5, 0, 0)] * 10, *[("good", 1, 1)] * 6, *cabins(8), *[("board", 1, 0, 0, 0)] * 8]
        self.answered([0, 0, 10, 6, 8, 20, 0], most, ("state",))

    def test_gone_parties_have_been_there(self):
        gone = [start(), *cabins(1), ("board", 1, 0, 0, 0), ("gate", 1), ("scan", 0), ("leave", 0)]
        self.answered([0, 0, 0, 0, 1, 5, 0], gone, ("state",))
        self.answered([0, 0, 0, 0, 2, 6, 0], [*gone, ("board", 1, 0, 0, 0)], ("state",))

    def test_behind_each_change(self):
        calls = [start()]
        hour, legs, goods, parties = 0, 0, 0, 0
        for number, change in enumerate(CHANGES):
            calls.append(change)
            hour += change[1] if change[0] == "hours" else 0
            legs += change[0] == "leg"
            goods += change[0] == "good"
            parties += change[0] == "board"
            told = [hour, hour // 24, legs, goods, parties, min(number + 1, 20), 0]
            self.assertEqual(self.last([*calls, ("state",)]), told)
            self.assertEqual(self.last([*calls, ("back",), ("state",)])[5:], [min(number, 19), 1])
            self.assertEqual(self.last([*calls, ("back",), ("again",), ("state",)]), told)

    def test_back_and_again(self):
        calls = [start(), *[("drill",)] * 22]
        for number in range(1, 21):
            calls.append(("back",))
            self.assertEqual(self.last([*calls, ("state",)]), [0, 0, 0, 0, 0, 20 - number, number])
        self.assertEqual(self.last([*calls, ("back",), ("state",)]), [0, 0, 0, 0, 0, 0, 20])
        for number in range(1, 21):
            calls.append(("again",))
            self.assertEqual(self.last([*calls, ("state",)]), [0, 0, 0, 0, 0, number, 20 - number])


class NoChanges(LineCase):
    def test_what_is_told_or_refused_is_no_change(self):
        for number in (16, 26):
            before = [start(), *CHANGES[:number], ("drill",), ("back",)]
            for call in NO_CHANGES:
                self.changes_nothing(before, call)

    def test_many_of_them_one_behind_another(self):
        for number in (0, 5, 20, 34):
            before = [start(), *CHANGES[:number]]
            probe = [("state",), *TOLD, ("back",), ("state",), *TOLD]
            self.assertEqual(play([*before, *NO_CHANGES, *probe])[-len(probe):], play([*before, *probe])[-len(probe):])

    def test_they_are_refused(self):
        for call in REFUSED_ALWAYS:
            self.assertLess(self.last([start(), *CHANGES, call])[0], 0, call)

    # Ships of the past share what never changes; what does change must not be shared.
    def test_ships_of_the_past_stay_as_they_were(self):
        for number in range(20, len(CHANGES) + 1):
            calls = [start(), *CHANGES[:number]]
            for back in (1, 7, 20):
                left = [start(), *CHANGES[:number - back]]
                self.assertEqual(told_behind([*calls, *[("back",)] * back]), told_behind(left))
