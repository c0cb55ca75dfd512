"""Point 4: tells, spare, reading, state."""

from tests.helper import BEGIN, LARGEST, OK, PlantTest, ask, quantities

CANT_BE = [("goes", 0, 0, 0), ("goes", 0, 0, 2)]
# a tells how fast b changes, and b is still: so a is at its mark, or one of these fails.
RATE_AND_STILL = quantities(1, 0) + [("rate", 0, 0, 1), ("still", 1)]
# Behind moment 0 one of a and b leaves its mark without the other one.
PARTING = quantities(1, 1, 0) + [("meet", 0, 0, 1, 0), ("seen", 0, 0, 1), ("goes", 0, 0, 2), ("goes", 0, 1, 1)]


class Tells(PlantTest):
    def test_the_least_sets_there_would_be(self):
        self.check(RATE_AND_STILL + [("tells", 0, 0, p) for p in (0, 1, 2)], [2, 1, 2], [1, 0], [2, 1, 2])
        calls = quantities(1) + [("still", 0), ("seen", 1, 0, 0)]
        self.check(calls + [("tells", 0, 0, p) for p in (0, 1, 2)], [1, 0], [1, 1], [0])
        self.check(calls + [("tells", 2, 0, p) for p in (0, 1, 2)], [1, 0], [1, 1], [0])

    def test_a_reading_that_would_tell_nothing(self):
        # Of b there's one place; and a was seen there already.
        calls = RATE_AND_STILL + [("seen", 0, 0, 2), ("least",)]
        self.check(calls + [("tells", 0, 1, 0), ("tells", 0, 0, 2), ("tells", 3, 1, 0)],
                   [2, 1, 2], [2, 1, 2], [2, 1, 2], [2, 1, 2])
        self.check([BEGIN, ("quantity", 0), ("tells", 0, 0, 0), ("tells", 3, 0, 0)], [1, 0], [1, 0])

    def test_one_that_can_not_be_beside_the_others(self):
        calls = quantities(2) + [("still", 0), ("seen", 0, 0, 0)]
        self.check(calls + [("tells", 0, 0, 1), ("tells", 1, 0, 2), ("tells", 3, 0, 4), ("least",)], [0], [0], [0], [1, 0])
        self.check(quantities(0) + [("still", 0)] + CANT_BE + [("tells", 0, 0, 0)], [0])

    def test_at_a_moment_that_was_not_looked_at(self):
        self.check(PARTING + [("tells", 0, 2, 0), ("tells", 1, 2, 0), ("tells", 3, 2, 0), ("least",)],
                   [1, 0], [1, 1], [1, 1], [1, 0])
        self.check(quantities(1) + [("still", 0), ("seen", 0, 0, 0), ("tells", 3, 0, 0), ("tells", 3, 0, 2), ("state",)],
                   [1, 0], [1, 1], [1, 1, 1, 1, 1])

    def test_however_many_readings_there_are(self):
        for count in range(13):
            calls = RATE_AND_STILL + [("goes", 0, 0, 1)] * count
            self.check(calls + [("tells", 0, 0, 0), ("tells", 0, 0, 1), ("tells", 3, 0, 1)], [2, 1, 2], [1, 0], [1, 0])
        full = RATE_AND_STILL + [("goes", 0, 0, 1)] * 12
        self.check(full + [("seen", 0, 0, 0), ("tells", 0, 0, 0), ("seen", 0, 0, 0)], -28, [2, 1, 2], -28)

    def test_answers_what_least_would_with_the_reading(self):
        for calls in (RATE_AND_STILL, RATE_AND_STILL + [("goes", 1, 0, 2)], PARTING, PARTING + [("seen", 2, 2, 0)]):
            for t in (0, 1, 2, 3):
                for i, p in ((0, 0), (0, 1), (0, 2), (1, 0)):
                    self.assertEqual(ask(calls + [("tells", t, i, p)])[-1],
                                     ask(calls + [("seen", t, i, p), ("least",)])[-1], (calls, t, i, p))

    def test_no_such_quantity(self):
        for i in (2, 3, LARGEST):
            self.check_refused(RATE_AND_STILL, ("tells", 0, i, 0), -2)
        self.check_refused([BEGIN], ("tells", 0, 0, 0), -2)

    def test_not_right(self):
        for t, i, p in ((4, 0, 0), (LARGEST, 0, 0), (0, 0, 3), (0, 0, LARGEST), (0, 1, 1), (3, 1, 2), (4, 1, 1)):
            self.check_refused(RATE_AND_STILL, ("tells", t, i, p), -22)

    def test_minus_2_ahead_of_minus_22(self):
        for t, p in ((4, 0), (0, 9), (LARGEST, LARGEST)):
            self.check_refused(RATE_AND_STILL, ("tells", t, 2, p), -2)
            self.check_refused([BEGIN], ("tells", t, 0, p), -2)

    def test_refused_with_twelve_readings_as_with_fewer(self):
        full = RATE_AND_STILL + [("goes", 0, 0, 1)] * 12
        self.check_refused(full, ("tells", 0, 2, 0), -2)
        self.check_refused(full, ("tells", 4, 0, 0), -22)
        self.check_refused(full, ("tells", 0, 0, 3), -22)


class Spare(PlantTest):
    def test_without_it_the_least_sets_are_others(self):
        calls = quantities(1) + [("still", 0), ("seen", 0, 0, 0), ("seen", 1, 0, 1)]
        self.check(calls + [("spare", 0), ("spare", 1)], 0, 0)

    def test_without_it_they_are_the_same(self):
        calls = quantities(1) + [("still", 0), ("seen", 0, 0, 0), ("seen", 1, 0, 1), ("seen", 0, 0, 0)]
        self.check(calls + [("spare", 0), ("spare", 1), ("spare", 2)], 1, 0, 1)
        self.check(quantities(1) + [("still", 0), ("seen", 0, 0, 0), ("spare", 0)], 1)
        self.check(quantities(1) + [("seen", 2, 0, 0), ("goes", 1, 0, 2), ("spare", 0), ("spare", 1)], 1, 1)

    def test_as_many_least_sets_but_others(self):
        # With both still rules broken there's one least set; without a reading there's one, too.
        calls = quantities(0, 0) + [("still", 0), ("still", 1), ("goes", 0, 0, 2), ("goes", 0, 1, 2)]
        self.check(calls + [("least",), ("spare", 0), ("spare", 1), ("unsay", 0), ("least",)], [1, 3], 0, 0, 1, [1, 2])

    def test_where_nothing_explains(self):
        self.check(quantities(0) + [("still", 0)] + CANT_BE + [("spare", 0), ("spare", 1)], 0, 0)
        # Without any one of three there's still no least set.
        calls = quantities(0) + [("still", 0)] + CANT_BE + [("goes", 0, 0, 1)]
        self.check(calls + [("spare", 0), ("spare", 1), ("spare", 2)], 1, 1, 1)

    def test_without_it_fewer_moments_are_looked_at(self):
        calls = PARTING + [("seen", 1, 2, 0)]
        self.check(calls + [("spare", 3)], 0)
        self.check(calls + [("seen", 3, 2, 0), ("spare", 3), ("spare", 4)], 1, 1)
        self.check(calls + [("unsay", 3), ("spare", 0), ("spare", 1), ("spare", 2)], 1, 1, 1)

    def test_answers_what_least_says_without_it(self):
        readings = [("seen", 0, 0, 1), ("goes", 0, 0, 2), ("goes", 1, 1, 1), ("seen", 2, 0, 2), ("goes", 2, 1, 2)]
        for k in range(5):
            calls = RATE_AND_STILL + readings + [("least",), ("spare", k), ("unsay", k), ("least",)]
            ahead, spare, count, behind = ask(calls)[-4:]
            self.assertEqual(spare, [1 if ahead == behind else 0], k)

    def test_no_such_reading(self):
        for k in (0, 1, 12, LARGEST):
            self.check_refused(quantities(1), ("spare", k), -2)
        for count in (1, 2, 12):
            for k in (count, count + 1, LARGEST):
                self.check_refused(quantities(1) + [("seen", 0, 0, 0)] * count, ("spare", k), -2)
            self.check(quantities(1) + [("seen", 0, 0, 0)] * count + [("spare", count - 1)], 1)


class Reading(PlantTest):
    def test_places_and_directions(self):
        calls = quantities(1, 2) + [("seen", 3, 1, 4), ("goes", 1, 0, 2), ("seen", 0, 0, 1), ("goes", 2, 1, 0)]
        self.check(calls + [("reading", k) for k in range(4)], [3, 1, 0, 4], [1, 0, 1, 2], [0, 0, 0, 1], [2, 1, 1, 0])

    def test_those_behind_one_that_went_are_one_less(self):
        calls = quantities(1) + [("seen", t, 0, 2) for t in (0, 1, 2)] + [("unsay", 1)]
        self.check(calls + [("reading", k) for k in range(3)], [0, 0, 0, 2], [2, 0, 0, 2], -2)
        self.check(calls + [("goes", 3, 0, 1), ("reading", 2)], [3, 0, 1, 1])

    def test_stays_where_a_rule_goes(self):
        self.check(quantities(0) + [("still", 0), ("goes", 2, 0, 2), ("drop", 0), ("reading", 0)], [2, 0, 1, 2])

    def test_twelve(self):
        told = [(k % 4, k % 2, k % 2, k % 3) for k in range(12)]
        calls = quantities(1, 1) + [("goes" if what else "seen", t, i, value) for t, i, what, value in told]
        for k in range(12):
            self.check(calls + [("reading", k)], list(told[k]))
        self.check(calls + [("seen", 0, 0, 0), ("reading", 12), ("reading", 11)], -28, -2, list(told[11]))

    def test_no_such_reading(self):
        for k in (0, 1, LARGEST):
            self.check_refused([BEGIN], ("reading", k), -2)
            self.check_refused(quantities(1), ("reading", k), -2)
        for count in (1, 2, 12):
            for k in (count, count + 1, 255, LARGEST):
                self.check_refused(quantities(1) + [("seen", 0, 0, 0)] * count, ("reading", k), -2)

    def test_none_is_left_behind_a_begin(self):
        self.check(quantities(1) + [("seen", 0, 0, 0)] + quantities(1) + [("reading", 0)], -2)


class State(PlantTest):
    def test_with_nothing(self):
        self.check([BEGIN, ("state",)], [0, 0, 0, 1])

    def test_all_of_it(self):
        calls = quantities(1, 2, 0) + [("still", 0), ("more", 0, 1), ("seen", 2, 0, 1), ("goes", 1, 1, 0), ("goes", 0, 0, 1)]
        self.check(calls + [("state",)], [3, 2, 3, 3, 1, 2, 0])

    def test_marks_of_each_quantity(self):
        for marks in ((0,), (1,), (2,), (3,), (2, 1), (1, 2), (0, 3), (3, 0), (0, 2, 1), (1, 0, 1)):
            self.check(quantities(*marks) + [("state",)], [len(marks), 0, 0, 1, *marks])

    def test_how_many_rules(self):
        for count in range(6):
            self.check(quantities(1) + [("still", 0)] * count + [("state",)], [1, count, 0, 1, 1])
        self.check(quantities(1) + [("still", 0)] * 6 + [("state",), ("drop", 2), ("state",)],
                   -28, [1, 5, 0, 1, 1], 4, [1, 4, 0, 1, 1])

    def test_how_many_readings(self):
        for count in range(13):
            self.check(quantities(0) + [("goes", 0, 0, 1)] * count + [("state",)], [1, 0, count, 1, 0])
        self.check(quantities(0) + [("goes", 0, 0, 1)] * 13 + [("state",), ("unsay", 2), ("state",)],
                   -28, [1, 0, 12, 1, 0], 11, [1, 0, 11, 1, 0])

    def test_how_many_moments(self):
        for t in (0, 1, 2, 3):
            self.check(quantities(0) + [("goes", t, 0, 1), ("state",)], [1, 0, 1, t + 1, 0])
        self.check(quantities(0) + [("goes", 3, 0, 1), ("seen", 1, 0, 0), ("state",), ("unsay", 0), ("state",),
                                    ("unsay", 0), ("state",)],
                   [1, 0, 2, 4, 0], 1, [1, 0, 1, 2, 0], 0, [1, 0, 0, 1, 0])

    def test_behind_a_second_begin(self):
        calls = quantities(1, 1) + [("still", 0), ("goes", 3, 0, 2), BEGIN, ("state",), OK]
        self.check(calls, [0, 0, 0, 1], 1)
