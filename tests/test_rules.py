"""Each kind of rule, over all directions and places that it speaks of."""

import itertools

from tests.helper import OK, PlantTest, ask_last, quantities

FALLING, STEADY, RISING = DIRECTIONS = (0, 1, 2)

# Place by place, for a quantity with so many marks and for each of these: below it, at it, above it.
SIDES = {
    1: ("<=>",),
    2: ("<=>>>", "<<<=>"),
    3: ("<=>>>>>", "<<<=>>>", "<<<<<=>"),
}


def going(directions):
    """Readings of moment 0: each quantity goes so."""
    return [("goes", 0, i, d) for i, d in enumerate(directions)]


class Kinds(PlantTest):
    def check_ok(self, calls, expected):
        self.assertEqual(ask_last(calls + [OK]), [1 if expected else 0], calls)

    def check_directions(self, rule, count, expected):
        """The rule holds in just those directions of so many quantities that are expected."""
        for directions in itertools.product(DIRECTIONS, repeat=count):
            calls = quantities(*[0] * count) + [rule] + going(directions)
            self.check_ok(calls, directions in expected)

    def test_more(self):
        self.check_directions(("more", 0, 1), 2, [(0, 0), (1, 1), (2, 2)])
        self.check_directions(("more", 1, 0), 2, [(0, 0), (1, 1), (2, 2)])

    def test_less(self):
        self.check_directions(("less", 0, 1), 2, [(0, 2), (1, 1), (2, 0)])
        self.check_directions(("less", 1, 0), 2, [(0, 2), (1, 1), (2, 0)])

    def test_more_and_less_speak_of_their_own_quantities(self):
        free = [(d, e, d) for d in DIRECTIONS for e in DIRECTIONS]
        self.check_directions(("more", 0, 2), 3, free)
        self.check_directions(("less", 2, 0), 3, [(d, e, 2 - d) for d, e, f in free])
        self.check_directions(("more", 2, 1), 3, [(e, d, d) for d, e, f in free])
        self.check_directions(("less", 0, 1), 3, [(d, 2 - d, e) for d, e, f in free])

    def test_still(self):
        self.check_directions(("still", 0), 1, [(1,)])
        self.check_directions(("still", 0), 2, [(1, 0), (1, 1), (1, 2)])
        self.check_directions(("still", 1), 2, [(0, 1), (1, 1), (2, 1)])

    def test_sum(self):
        sums = [
            (0, 0, 0), (0, 1, 0), (0, 2, 0), (0, 2, 1), (0, 2, 2), (1, 0, 0), (1, 1, 1), (1, 2, 2),
            (2, 0, 0), (2, 0, 1), (2, 0, 2), (2, 1, 2), (2, 2, 2),
        ]
        self.check_directions(("sum", 0, 1, 2), 3, sums)
        self.check_directions(("sum", 1, 0, 2), 3, sums)
        self.check_directions(("sum", 2, 1, 0), 3, [(c, b, a) for a, b, c in sums])
        self.check_directions(("sum", 0, 2, 1), 3, [(a, c, b) for a, b, c in sums])
        self.check_directions(("sum", 1, 2, 0), 3, [(c, a, b) for a, b, c in sums])

    def test_rate(self):
        direction_of = {"<": FALLING, "=": STEADY, ">": RISING}
        for marks, sides in SIDES.items():
            for j, side in enumerate(sides):
                for place, direction in itertools.product(range(2 * marks + 1), DIRECTIONS):
                    holds = direction == direction_of[side[place]]
                    self.check_ok(quantities(marks, 0) + [("rate", 0, j, 1), ("seen", 0, 0, place),
                                                          ("goes", 0, 1, direction)], holds)
                    self.check_ok(quantities(0, marks) + [("rate", 1, j, 0), ("seen", 0, 1, place),
                                                          ("goes", 0, 0, direction)], holds)

    def test_rate_speaks_neither_of_its_own_direction_nor_of_the_other_place(self):
        for direction, place in itertools.product(DIRECTIONS, range(5)):
            self.check_ok(quantities(1, 2) + [("rate", 0, 0, 1), ("goes", 0, 0, direction), ("seen", 0, 1, place)], True)

    def test_meet(self):
        for marks, others in ((1, 1), (1, 2), (2, 1)):
            for (j, side), (k, other) in itertools.product(enumerate(SIDES[marks]), enumerate(SIDES[others])):
                for place, there in itertools.product(range(2 * marks + 1), range(2 * others + 1)):
                    readings = [("seen", 0, 0, place), ("seen", 0, 1, there)]
                    holds = side[place] == other[there]
                    self.check_ok(quantities(marks, others) + [("meet", 0, j, 1, k)] + readings, holds)
                    self.check_ok(quantities(marks, others) + [("meet", 1, k, 0, j)] + readings, holds)

    def test_meet_speaks_of_no_direction(self):
        for directions in itertools.product(DIRECTIONS, repeat=2):
            self.check_ok(quantities(1, 1) + [("meet", 0, 0, 1, 0)] + going(directions), True)

    def test_a_state_fits_if_all_rules_hold(self):
        rules = [("more", 0, 1), ("less", 1, 2), ("sum", 0, 2, 1)]
        for directions in itertools.product(DIRECTIONS, repeat=3):
            a, b, c = directions
            calls = quantities(0, 0, 0) + rules + going(directions)
            # a and c are opposite, so that their sum may have any direction, or all three are steady.
            self.check_ok(calls, a == b and b + c == 2)

    def test_a_rule_holds_at_each_moment_looked_at(self):
        for unseen in (0, 1, 2, 3):
            others = [t for t in (0, 1, 2, 3) if t != unseen]
            moves = quantities(0) + [("goes", t, 0, 1) for t in others]
            self.check_ok(moves + [("still", 0)], True)
            self.check_ok(moves + [("still", 0), ("goes", unseen, 0, 2)], False)
        # From below the mark to it takes a rising at a moment at which nothing was seen of the direction.
        climbs = quantities(1) + [("seen", 0, 0, 0), ("seen", 3, 0, 1)]
        self.check_ok(climbs, True)
        self.check_ok(climbs + [("still", 0)], False)

    def test_no_rule_speaks_of_moments_that_were_not_looked_at(self):
        # b would have to rise behind its mark next, but that moment wasn't looked at.
        self.check_ok(quantities(1, 0) + [("rate", 0, 0, 1), ("seen", 0, 0, 1), ("goes", 0, 0, 2), ("goes", 0, 1, 1)],
                      True)
