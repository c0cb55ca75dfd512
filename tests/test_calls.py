"""Point 1: what the calls that tell of the plant answer, and their refusals."""

import itertools

from tests.helper import BEGIN, LARGEST, NAMES, OK, PlantTest, ask, probed, quantities

BEYOND = (3, 4, 5, 12, 255, 256, LARGEST)
FULL_RULES = [("still", 0)] * 5
FULL_READINGS = [("goes", 0, 0, 1)] * 12

# One call of each number, such as might stand before a begin.
ANY_CALLS = {
    "quantity": (1,), "more": (0, 1), "less": (0, 1), "sum": (0, 1, 2), "rate": (0, 0, 1), "still": (0,),
    "meet": (0, 0, 1, 0), "drop": (0,), "seen": (0, 0, 0), "goes": (0, 0, 0), "unsay": (0,), "ok": (), "run": ([],),
    "explains": ([],), "least": (), "nth": (0,), "fewest": (), "suspects": (), "sure": (), "clashes": (),
    "clash": (0,), "may": (0, 0, []), "tells": (0, 0, 0), "spare": (0,), "reading": (0,), "state": (),
}


class Begin(PlantTest):
    def test_answers_0(self):
        self.check([BEGIN], 0)

    def test_every_other_call_before_it(self):
        self.assertEqual(set(ANY_CALLS), set(NAMES) - {"begin"})
        for name, given in ANY_CALLS.items():
            self.check([(name, *given)], -11)
            self.check([(name, *given), BEGIN], -11, 0)

    def test_before_it_minus_11_comes_ahead_of_other_refusals(self):
        for call in (("quantity", LARGEST), ("more", 7, 7), ("sum", 1, 1, 1), ("rate", 2, 9, 2), ("meet", 1, 9, 1, 9),
                     ("still", 9), ("drop", 9), ("seen", 9, 9, 9), ("goes", 9, 9, 9), ("unsay", 9), ("run", [1, 1]),
                     ("explains", [9]), ("nth", 9), ("clash", 9), ("may", 9, 9, [1, 1]), ("tells", 9, 9, 9),
                     ("spare", 9), ("reading", 9)):
            self.check([call], -11)

    def test_lists_are_read_past_before_it(self):
        self.check([("run", [0, 1]), ("explains", [0] * 255), ("may", 0, 0, [0, 0]), BEGIN], -11, -11, -11, 0)

    def test_what_is_said_before_it_is_not_kept(self):
        early = [("quantity", 1), ("quantity", 1), ("still", 0), ("goes", 0, 0, 2)]
        self.assertEqual(ask(early), [[-11]] * 4)
        self.assertEqual(probed(early + [BEGIN]), probed([BEGIN]))

    def test_a_second_one_leaves_nothing(self):
        full = quantities(1, 1) + [("still", 0), ("more", 0, 1), ("goes", 3, 0, 2), ("seen", 1, 1, 1)]
        self.check(full + [BEGIN], 0)
        self.assertEqual(probed(full + [BEGIN]), probed([BEGIN]))
        self.check(full + [BEGIN, ("still", 0), ("drop", 0), ("unsay", 0), ("run", [])], -2, -2, -2, 1)
        self.check(full + quantities(0) + [("still", 0), ("goes", 1, 0, 1), OK, ("run", [])], 0, 0, 1, [2, 0, 1, 0, 1])


class Quantity(PlantTest):
    def test_its_number(self):
        self.check(quantities(1, 1, 0), 0, 1, 2)

    def test_0_to_3_marks(self):
        for m in (0, 1, 2, 3):
            self.check(quantities(m), 0)
            self.check(quantities(m) + [("seen", 0, 0, 2 * m), ("seen", 0, 0, 2 * m + 1)], 0, -22)

    def test_too_many_marks(self):
        for m in (4, 5, 7, 256, LARGEST):
            self.check_refused([BEGIN], ("quantity", m), -22)
            self.check_refused(quantities(1, 2), ("quantity", m), -22)

    def test_the_4th(self):
        for marks in ((0, 0, 0), (1, 1, 0), (0, 1, 2), (3, 0, 0)):
            for m in (0, 1, 2, 3):
                self.check_refused(quantities(*marks), ("quantity", m), -28)

    def test_places_multiplied_at_15_and_above(self):
        places = {0: 1, 1: 3, 2: 5, 3: 7}
        for one, other, third in itertools.product(range(4), repeat=3):
            calls = quantities(one)
            product = places[one]
            for m in (other, third):
                if product * places[m] > 15:
                    self.check_refused(calls, ("quantity", m), -28)
                    break
                product *= places[m]
                calls = calls + [("quantity", m)]
                self.check(calls, len(calls) - 2)

    def test_just_at_15(self):
        self.check(quantities(1, 2, 0), 0, 1, 2)
        self.check(quantities(2, 1, 0), 0, 1, 2)
        self.check(quantities(0, 2, 1), 0, 1, 2)

    def test_one_that_is_refused_leaves_room_for_a_smaller_one(self):
        self.check(quantities(2, 2, 1, 3, 0), 0, -28, 1, -28, 2)

    def test_minus_22_ahead_of_minus_28(self):
        for marks in ((0, 0, 0), (1, 2), (3,), (1, 1, 0)):
            for m in (4, LARGEST):
                self.check_refused(quantities(*marks), ("quantity", m), -22)


# Of each kind: a right one, and those with a quantity that there isn't, and those that are otherwise not right,
# for three quantities of which 0 has two marks, 1 has one, and 2 has none.
RULES = {
    "more": (
        [(0, 1), (1, 0), (2, 0)],
        [(3, 0), (0, 3), (3, 3), (LARGEST, 0), (0, LARGEST), (3, 4)],
        [(0, 0), (1, 1), (2, 2)],
    ),
    "less": (
        [(0, 1), (1, 0), (2, 0)],
        [(3, 0), (0, 3), (3, 3), (LARGEST, 0), (0, LARGEST), (3, 4)],
        [(0, 0), (1, 1), (2, 2)],
    ),
    "sum": (
        [(0, 1, 2), (2, 1, 0), (1, 0, 2)],
        [(3, 1, 2), (0, 3, 2), (0, 1, 3), (3, 3, 3), (0, 0, 3), (3, 3, 0), (0, 3, 0), (LARGEST, 0, 1), (0, 1, LARGEST)],
        [(0, 0, 1), (0, 1, 0), (1, 0, 0), (2, 2, 2)],
    ),
    "rate": (
        [(0, 0, 1), (0, 1, 1), (1, 0, 2), (1, 0, 0)],
        [(3, 0, 1), (0, 0, 3), (3, 0, 3), (0, 2, 3), (3, 9, 1), (LARGEST, LARGEST, LARGEST), (0, 0, LARGEST)],
        [(0, 0, 0), (0, 2, 1), (0, 2, 0), (1, 1, 0), (2, 0, 1), (0, LARGEST, 1), (1, LARGEST, 1)],
    ),
    "still": (
        [(0,), (1,), (2,)],
        [(3,), (4,), (LARGEST,)],
        [],
    ),
    "meet": (
        [(0, 0, 1, 0), (0, 1, 1, 0), (1, 0, 0, 1)],
        [(3, 0, 1, 0), (0, 0, 3, 0), (3, 0, 3, 0), (0, 2, 3, 0), (3, 9, 1, 9), (LARGEST, 0, 0, 0), (0, 0, LARGEST, 0)],
        [(0, 0, 0, 0), (0, 0, 0, 1), (0, 2, 1, 0), (0, 0, 1, 1), (1, 1, 0, 0), (1, 0, 0, 2), (2, 0, 0, 0),
         (0, 0, 2, 0), (0, LARGEST, 1, 0), (0, 0, 1, LARGEST), (0, 9, 0, 9)],
    ),
}


class Rules(PlantTest):
    def setUp(self):
        self.some = quantities(2, 1, 0)
        self.full = self.some + FULL_RULES

    def test_its_number(self):
        for kind, (right, missing, wrong) in RULES.items():
            for given in right:
                self.check(self.some + [(kind, *given)], 0)
                self.check(self.some + [("still", 0), (kind, *given)], 0, 1)

    def test_no_such_quantity(self):
        for kind, (right, missing, wrong) in RULES.items():
            for given in missing:
                self.check_refused(self.some, (kind, *given), -2)
            for given in right + wrong:
                self.check_refused([BEGIN], (kind, *given), -2)

    def test_not_right(self):
        for kind, (right, missing, wrong) in RULES.items():
            for given in wrong:
                self.check_refused(self.some, (kind, *given), -22)

    def test_the_6th(self):
        for kind, (right, missing, wrong) in RULES.items():
            for given in right:
                self.check(self.some + FULL_RULES[:4] + [(kind, *given)], 4)
                self.check_refused(self.full, (kind, *given), -28)

    def test_minus_2_ahead_of_minus_28(self):
        for kind, (right, missing, wrong) in RULES.items():
            for given in missing:
                self.check_refused(self.full, (kind, *given), -2)

    def test_minus_22_ahead_of_minus_28(self):
        for kind, (right, missing, wrong) in RULES.items():
            for given in wrong:
                self.check_refused(self.full, (kind, *given), -22)

    def test_one_that_is_there_twice_is_two(self):
        self.check(self.some + [("more", 0, 1), ("more", 0, 1), ("drop", 0), ("drop", 0)], 0, 1, 1, 0)

    def test_a_mark_is_of_its_own_quantity(self):
        self.check(self.some + [("rate", 0, 1, 1), ("rate", 1, 1, 0)], 0, -22)
        self.check(self.some + [("meet", 0, 1, 1, 0), ("meet", 0, 0, 1, 1)], 0, -22)

    def test_a_quantity_of_a_later_call_can_be_named_then(self):
        self.check(quantities(1) + [("more", 0, 1), ("quantity", 0), ("more", 0, 1)], -2, 1, 0)


class Drop(PlantTest):
    def test_how_many_rules_there_are(self):
        self.check(quantities(0) + FULL_RULES + [("drop", 4), ("drop", 0), ("drop", 1), ("drop", 1), ("drop", 0)],
                   4, 3, 2, 1, 0)

    def test_no_such_rule(self):
        for r in (0, 1, 5, LARGEST):
            self.check_refused(quantities(1), ("drop", r), -2)
        for r in (2,) + BEYOND:
            self.check_refused(quantities(1) + FULL_RULES[:2], ("drop", r), -2)
        for r in (5, 6, LARGEST):
            self.check_refused(quantities(1) + FULL_RULES, ("drop", r), -2)

    def test_those_behind_it_are_one_less(self):
        three = quantities(0, 0, 0) + [("still", 0), ("still", 1), ("still", 2)]
        moving = [("goes", 0, 0, 2), ("goes", 0, 1, 2), ("goes", 0, 2, 2)]
        # Without rule 0, what was rule 1 is rule 0: to give up 0 and 1 is to give up all.
        self.check(three + moving + [("drop", 0), ("run", [0, 1]), ("run", [1, 2])], 2, [1, 0, 2, 0, 2, 0, 2], -22)
        for dropped in (0, 1, 2):
            left = [i for i in (0, 1, 2) if i != dropped]
            for number, i in enumerate(left):
                one_moves = [("goes", 0, i, 2)]
                run = [1] + [direction for k in (0, 1, 2) for direction in (0, 2 if k == i else int(k in left))]
                self.check(three + [("drop", dropped)] + one_moves + [("run", [number]), ("run", [1 - number])],
                           run, -33)

    def test_readings_stay(self):
        self.check(quantities(0) + [("still", 0), ("goes", 2, 0, 2), OK, ("drop", 0), OK, ("run", []), ("unsay", 0)],
                   0, 0, 0, 0, 1, [3, 0, 0, 0, 1, 0, 2], 0)

    def test_makes_room_for_a_rule(self):
        self.check(quantities(0) + FULL_RULES + [("still", 0), ("drop", 2), ("still", 0), ("still", 0)], -28, 4, 4, -28)


class Readings(PlantTest):
    def test_its_number(self):
        self.check(quantities(1, 2) + [("seen", 0, 0, 2), ("goes", 3, 1, 0), ("seen", 0, 0, 2), ("goes", 0, 0, 2)],
                   0, 1, 2, 3)

    def test_no_such_quantity(self):
        for i in (2, 3, 256, LARGEST):
            self.check_refused(quantities(1, 0), ("seen", 0, i, 0), -2)
            self.check_refused(quantities(1, 0), ("goes", 0, i, 0), -2)
        self.check_refused([BEGIN], ("seen", 0, 0, 0), -2)
        self.check_refused([BEGIN], ("goes", 0, 0, 0), -2)

    def test_moments_0_to_3(self):
        for t in (0, 1, 2, 3):
            self.check(quantities(1) + [("seen", t, 0, 0)], 0)
            self.check(quantities(1) + [("goes", t, 0, 0)], 0)
            self.check(quantities(1) + [("goes", t, 0, 1), ("run", [])], 0, [t + 1] + [0, 0] * t + [0, 1])

    def test_moment_4_and_above(self):
        for t in (4, 5, 12, LARGEST):
            self.check_refused(quantities(1), ("seen", t, 0, 0), -22)
            self.check_refused(quantities(1), ("goes", t, 0, 0), -22)

    def test_the_last_place_and_the_one_behind_it(self):
        for m in (0, 1, 2, 3):
            for p in range(2 * m + 1):
                self.check(quantities(m) + [("seen", 0, 0, p)], 0)
            for p in (2 * m + 1, 2 * m + 2, 256, LARGEST):
                self.check_refused(quantities(m), ("seen", 0, 0, p), -22)
        self.check(quantities(2, 1) + [("seen", 0, 0, 4), ("seen", 0, 1, 4), ("seen", 0, 1, 2)], 0, -22, 1)
        self.check(quantities(0, 2) + [("seen", 0, 1, 4), ("seen", 0, 0, 1)], 0, -22)

    def test_directions_2_and_3(self):
        for d in (0, 1, 2):
            self.check(quantities(0) + [("goes", 0, 0, d)], 0)
        for d in (3, 4, 256, LARGEST):
            self.check_refused(quantities(3), ("goes", 0, 0, d), -22)

    def test_the_13th(self):
        full = quantities(1, 1) + FULL_READINGS
        self.check(full, *range(12))
        self.check_refused(full, ("seen", 0, 0, 0), -28)
        self.check_refused(full, ("seen", 3, 1, 2), -28)
        self.check_refused(full, ("goes", 0, 0, 1), -28)
        self.check_refused(full, ("goes", 3, 1, 2), -28)

    def test_minus_2_ahead_of_minus_22(self):
        for call in (("seen", 4, 2, 0), ("seen", 0, 2, 9), ("seen", 4, 2, 9), ("goes", 4, 2, 0), ("goes", 0, 2, 3),
                     ("goes", LARGEST, LARGEST, LARGEST), ("seen", LARGEST, LARGEST, LARGEST)):
            self.check_refused(quantities(1, 1), call, -2)
            self.check_refused([BEGIN], call, -2)

    def test_minus_2_ahead_of_minus_28(self):
        full = quantities(1, 1) + FULL_READINGS
        for call in (("seen", 0, 2, 0), ("goes", 0, 2, 0), ("seen", 4, 2, 9), ("goes", 4, 2, 9)):
            self.check_refused(full, call, -2)

    def test_minus_22_ahead_of_minus_28(self):
        full = quantities(1, 1) + FULL_READINGS
        for call in (("seen", 4, 0, 0), ("seen", 0, 0, 3), ("seen", 4, 1, 3), ("goes", 4, 0, 0), ("goes", 0, 1, 3)):
            self.check_refused(full, call, -22)


class Unsay(PlantTest):
    def test_how_many_readings_there_are(self):
        calls = quantities(0) + FULL_READINGS + [("unsay", 11), ("unsay", 0), ("unsay", 5)]
        self.check(calls, 11, 10, 9)

    def test_no_such_reading(self):
        for k in (0, 1, 12, LARGEST):
            self.check_refused(quantities(1), ("unsay", k), -2)
        for k in (1, 2, 11, LARGEST):
            self.check_refused(quantities(1) + FULL_READINGS[:1], ("unsay", k), -2)
        for k in (12, 13, LARGEST):
            self.check_refused(quantities(1) + FULL_READINGS, ("unsay", k), -2)

    def test_those_behind_it_are_one_less(self):
        three = quantities(3) + [("goes", 0, 0, 2), ("seen", 0, 0, 3), ("goes", 1, 0, 2)]
        self.check(three + [("run", [])], [2, 3, 2, 4, 2])
        self.check(three + [("unsay", 0), ("run", [])], 2, [2, 3, 1, 3, 2])
        self.check(three + [("unsay", 1), ("run", [])], 2, [2, 0, 2, 0, 2])
        self.check(three + [("unsay", 2), ("run", [])], 2, [1, 3, 2])
        # Reading 2 is reading 1 behind the first unsay, and reading 1 is reading 0.
        self.check(three + [("unsay", 0), ("unsay", 1), ("run", [])], 2, 1, [1, 3, 0])
        self.check(three + [("unsay", 0), ("unsay", 0), ("run", [])], 2, 1, [2, 0, 1, 0, 2])
        self.check(three + [("unsay", 0), ("unsay", 2)], 2, -2)

    def test_fewer_moments_may_be_looked_at(self):
        self.check(quantities(0) + [("goes", 1, 0, 0), ("goes", 3, 0, 0), ("run", []), ("unsay", 1), ("run", []),
                                    ("unsay", 0), ("run", [])],
                   [4] + [0, 0] * 4, 1, [2] + [0, 0] * 2, 0, [1, 0, 0])

    def test_makes_room_for_a_reading(self):
        self.check(quantities(0) + FULL_READINGS[:11] + [("seen", 0, 0, 0), ("goes", 0, 0, 1), ("unsay", 3),
                                                         ("goes", 0, 0, 1), ("goes", 0, 0, 1)],
                   11, -28, 11, 11, -28)

    def test_rules_stay(self):
        self.check(quantities(0) + [("still", 0), ("goes", 0, 0, 2), OK, ("unsay", 0), OK, ("run", []), ("drop", 0)],
                   0, 0, 0, 0, 1, [1, 0, 1], 0)
