"""Point 2, of ok and run; what follows a pair; readings and moments."""

import itertools

from tests import oracle
from tests.helper import BEGIN, LARGEST, OK, PlantTest, ask, quantities

# By the number of marks: the places a moment later of a falling and of a rising quantity, place by place.
FALLS = {
    0: ([0],),
    1: ([0], [0], [1, 2]),
    2: ([0], [0], [1, 2], [2], [3, 4]),
    3: ([0], [0], [1, 2], [2], [3, 4], [4], [5, 6]),
}
RISES = {
    0: ([0],),
    1: ([0, 1], [2], [2]),
    2: ([0, 1], [2], [2, 3], [4], [4]),
    3: ([0, 1], [2], [2, 3], [4], [4, 5], [6], [6]),
}
NEXT_DIRECTIONS = ([0, 1], [0, 1, 2], [1, 2])
CANT_BE = [("goes", 0, 0, 0), ("goes", 0, 0, 2)]


class Following(PlantTest):
    def test_each_pair_behind_each_pair(self):
        for marks in (0, 1, 2, 3):
            pairs = list(itertools.product(range(2 * marks + 1), range(3)))
            for (p, d), (q, e) in itertools.product(pairs, repeat=2):
                places = (FALLS[marks][p], [p], RISES[marks][p])[d]
                follows = q in places and e in NEXT_DIRECTIONS[d]
                calls = quantities(marks) + [("seen", 0, 0, p), ("goes", 0, 0, d), ("seen", 1, 0, q), ("goes", 1, 0, e)]
                self.check(calls + [OK], 1 if follows else 0)

    def test_each_quantity_by_itself(self):
        readings = [("seen", 0, 0, 1), ("goes", 0, 0, 2), ("seen", 0, 1, 4), ("goes", 0, 1, 0)]
        for q, r in itertools.product(range(3), range(5)):
            calls = quantities(1, 2) + readings + [("seen", 1, 0, q), ("seen", 1, 1, r), OK]
            self.check(calls, 1 if q == 2 and r in (3, 4) else 0)

    def test_further_than_one_place_takes_moments(self):
        # From below mark 0 to above mark 1: at 0, at the mark, between, at mark 1, above.
        self.check(quantities(2) + [("seen", 0, 0, 0), ("seen", 3, 0, 3), OK, ("run", [])],
                   1, [4, 0, 2, 1, 2, 2, 2, 3, 1])
        self.check(quantities(2) + [("seen", 0, 0, 0), ("seen", 3, 0, 4), OK, ("run", [])], 0, -33)
        self.check(quantities(2) + [("seen", 0, 0, 4), ("seen", 3, 0, 1), OK, ("run", [])],
                   1, [4, 4, 0, 3, 0, 2, 0, 1, 0])
        self.check(quantities(2) + [("seen", 0, 0, 4), ("seen", 3, 0, 0), OK, ("run", [])], 0, -33)


class Ok(PlantTest):
    def test_no_rules_no_readings_no_quantities(self):
        self.check([BEGIN, OK], 1)
        self.check(quantities(2, 1) + [OK], 1)
        self.check(quantities(2, 1) + [("still", 0), OK], 1)
        self.check(quantities(2, 1) + [("seen", 0, 0, 4), OK], 1)

    def test_rules_and_readings_that_agree_or_not(self):
        calls = quantities(0, 0) + [("more", 0, 1), ("goes", 0, 0, 2), OK, ("goes", 0, 1, 2), OK, ("goes", 0, 1, 1), OK]
        self.check(calls, 1, 1, 1, 2, 0)

    def test_answers_0_where_no_set_explains(self):
        self.check(quantities(0) + CANT_BE + [OK], 0)

    def test_rules_that_can_not_be_together(self):
        # With nothing seen there's still one moment, at which a state must fit.
        self.check(quantities(1, 1, 0) + [("rate", 0, 0, 2), ("rate", 1, 0, 2), ("meet", 0, 0, 1, 0), OK], 1)
        self.check(quantities(1, 0) + [("still", 1), ("rate", 0, 0, 1), OK, ("seen", 0, 0, 0), OK], 1, 0, 0)

    def test_changes_nothing(self):
        calls = quantities(1) + [("still", 0), ("seen", 0, 0, 0), ("seen", 1, 0, 1)]
        self.check(calls + [OK, OK, ("run", [0]), OK, ("run", [0]), ("drop", 0), OK],
                   0, 0, [2, 0, 2, 1, 1], 0, [2, 0, 2, 1, 1], 0, 1)


class Run(PlantTest):
    def test_without_quantities(self):
        self.check([BEGIN, ("run", [])], [1])

    def test_without_readings(self):
        self.check(quantities(1) + [("run", [])], [1, 0, 0])
        self.check(quantities(1, 2) + [("run", [])], [1, 0, 0, 0, 0])
        self.check(quantities(1, 2) + [("still", 1), ("run", []), ("run", [0])], [1, 0, 0, 0, 1], [1, 0, 0, 0, 0])

    def test_as_many_states_as_moments_looked_at(self):
        for t in (0, 1, 2, 3):
            self.check(quantities(0, 0) + [("goes", t, 1, 0), ("run", [])], [t + 1] + [0, 0, 0, 0] * (t + 1))
        self.check(quantities(0) + [("goes", 2, 0, 0), ("goes", 1, 0, 0), ("run", [])], [3] + [0, 0] * 3)

    def test_a_moment_at_which_nothing_was_seen(self):
        self.check(quantities(1) + [("seen", 0, 0, 0), ("seen", 3, 0, 2), ("run", [])], [4, 0, 1, 0, 2, 1, 2, 2, 1])
        self.check(quantities(1) + [("seen", 2, 0, 1), ("run", [])], [3, 0, 1, 0, 2, 1, 1])

    def test_the_first_one_has_the_lesser_state_where_two_first_differ(self):
        # Place comes ahead of direction, an earlier moment ahead of a later one, quantity 0 ahead of quantity 1.
        self.check(quantities(1) + [("goes", 1, 0, 2), ("run", [])], [2, 0, 1, 0, 2])
        self.check(quantities(1) + [("seen", 1, 0, 2), ("run", [])], [2, 1, 2, 2, 1])
        self.check(quantities(1, 1) + [("meet", 0, 0, 1, 0), ("less", 0, 1), ("run", [])], [1, 0, 0, 0, 2])
        self.check(quantities(1, 1) + [("less", 1, 0), ("goes", 0, 1, 0), ("run", [])], [1, 0, 2, 0, 0])

    def test_a_lesser_state_that_does_not_go_on_is_passed_by(self):
        # Falling at 0 it could not be at the mark later; nor could it, steady, one moment before.
        self.check(quantities(1) + [("seen", 0, 0, 0), ("seen", 1, 0, 1), ("run", [])], [2, 0, 2, 1, 1])
        self.check(quantities(1) + [("seen", 1, 0, 1), ("goes", 1, 0, 0), ("run", [])], [2, 1, 1, 1, 0])

    def test_rules_that_are_given_up(self):
        calls = quantities(0, 0) + [("still", 0), ("still", 1), ("goes", 0, 0, 2), ("goes", 0, 1, 0)]
        self.check(calls + [OK, ("run", []), ("run", [0]), ("run", [1]), ("run", [0, 1]), ("run", [1, 0])],
                   0, -33, -33, -33, [1, 0, 2, 0, 0], [1, 0, 2, 0, 0])

    def test_the_rules_that_are_not_given_up_hold(self):
        calls = quantities(0, 0) + [("more", 0, 1), ("still", 0), ("less", 0, 1)]
        runs = {
            (): [1, 0, 1, 0, 1], (0,): [1, 0, 1, 0, 1], (1,): [1, 0, 1, 0, 1], (2,): [1, 0, 1, 0, 1],
            (0, 1): [1, 0, 0, 0, 2], (0, 2): [1, 0, 1, 0, 0], (1, 2): [1, 0, 0, 0, 0], (0, 1, 2): [1, 0, 0, 0, 0],
        }
        for given_up, run in runs.items():
            for order in itertools.permutations(given_up):
                self.check(calls + [("run", list(order))], run)

    def test_a_rule_that_there_is_not(self):
        for count in range(6):
            calls = quantities(1) + [("still", 0)] * count
            for r in (count, count + 1, 31, 32, 255, LARGEST):
                for given_up in ([r], [r, 0], [0, r], list(range(count)) + [r]):
                    self.check_refused(calls, ("run", given_up), -22)

    def test_a_rule_twice(self):
        calls = quantities(1) + [("still", 0), ("still", 0), ("still", 0)]
        for given_up in ([0, 0], [1, 1], [0, 1, 0], [2, 2, 2], [0, 1, 2, 2], [0] * 255):
            self.check_refused(calls, ("run", given_up), -22)
        self.check_refused([BEGIN], ("run", [0, 0]), -22)

    def test_lists_of_255_numbers(self):
        calls = quantities(1) + [("still", 0)] * 5
        for given_up in (list(range(255)), [0, 1, 2, 3, 4] * 51, [LARGEST] * 255, list(range(LARGEST - 254, LARGEST + 1))):
            self.assertEqual(len(given_up), 255)
            self.check(calls + [("run", given_up), OK, ("run", [])], -22, 1, [1, 0, 1])

    def test_the_empty_list(self):
        self.check(quantities(0) + [("still", 0), ("run", [])], [1, 0, 1])

    def test_it_does_not_explain(self):
        calls = quantities(0) + [("still", 0), ("goes", 1, 0, 2)]
        self.check_refused(calls, ("run", []), -33)
        self.check(calls + [("run", [0])], [2, 0, 1, 0, 2])
        self.check_refused(quantities(0) + CANT_BE, ("run", []), -33)
        self.check_refused(quantities(0) + [("still", 0)] + CANT_BE, ("run", [0]), -33)

    def test_minus_22_ahead_of_minus_33(self):
        calls = quantities(0) + [("still", 0), ("still", 0)] + CANT_BE
        for given_up in ([2], [0, 0], [0, 2], [2, 2], [0, 1, 1]):
            self.check_refused(calls, ("run", given_up), -22)
        self.check_refused(quantities(0) + CANT_BE, ("run", [0]), -22)


class Corners(PlantTest):
    def test_readings_that_no_rule_could_forbid_and_that_can_not_be(self):
        impossible = (
            [("goes", 0, 0, 0), ("goes", 1, 0, 2)],
            [("seen", 0, 0, 0), ("seen", 1, 0, 2)],
            [("seen", 0, 0, 2), ("seen", 1, 0, 4)],
            [("seen", 0, 0, 1), ("goes", 0, 0, 2), ("seen", 1, 0, 1)],
            [("goes", 0, 0, 1), ("seen", 0, 0, 3), ("seen", 1, 0, 2)],
            [("seen", 0, 0, 0), ("goes", 0, 0, 0), ("seen", 3, 0, 3)],
        )
        for readings in impossible:
            self.check(quantities(3) + readings + [OK, ("run", [])], 0, -33)
            self.check(quantities(3) + [("still", 0)] + readings + [("run", [0])], -33)

    def test_two_of_one_moment_that_say_otherwise(self):
        for t in (0, 1, 2, 3):
            self.check(quantities(1) + [("seen", t, 0, 0), ("seen", t, 0, 1), OK, ("unsay", 0), OK], 0, 1, 0, 1, 1)
            self.check(quantities(1) + [("goes", t, 0, 0), ("goes", t, 0, 1), OK, ("unsay", 1), OK], 0, 1, 0, 1, 1)

    def test_two_of_one_moment_that_say_the_same(self):
        self.check(quantities(1) + [("seen", 1, 0, 0), ("seen", 1, 0, 0), OK, ("unsay", 0), OK], 0, 1, 1, 1, 1)

    def test_a_place_is_not_taken_for_a_direction(self):
        self.check(quantities(1) + [("seen", 0, 0, 2), ("goes", 0, 0, 0), ("run", [])], 0, 1, [1, 2, 0])
        self.check(quantities(1) + [("goes", 0, 0, 2), ("seen", 0, 0, 1), ("run", [])], 0, 1, [1, 1, 2])

    def test_a_rule_that_is_there_twice(self):
        calls = quantities(0) + [("still", 0), ("still", 0), ("goes", 0, 0, 2)]
        self.check(calls + [OK, ("run", [0]), ("run", [1]), ("run", [0, 1])], 0, -33, -33, [1, 0, 2])
        self.check(calls + [("drop", 0), ("run", [0]), OK, ("drop", 0), OK], 1, [1, 0, 2], 0, 0, 1)

    def test_a_rule_that_holds_by_chance(self):
        self.check(quantities(0, 0) + [("more", 0, 1), ("goes", 0, 0, 1), ("goes", 0, 1, 1), OK, ("run", []), ("run", [0])],
                   0, 0, 1, 1, [1, 0, 1, 0, 1], [1, 0, 1, 0, 1])

    def test_twelve_readings_at_four_moments(self):
        readings = []
        for t, (p, d) in enumerate([(0, 2), (1, 2), (2, 1)]):
            readings += [("seen", t, 0, p), ("goes", t, 0, d), ("seen", t, 1, 4 - p), ("goes", t, 1, 2 - d)]
        self.check(quantities(1, 2) + [("less", 0, 1)] + readings + [("goes", 3, 0, 0), OK, ("run", [])],
                   10, 11, -28, 1, [3, 0, 2, 4, 0, 1, 2, 3, 0, 2, 1, 2, 1])
        self.check(quantities(1, 2) + [("less", 0, 1)] + readings[:11] + [("goes", 3, 0, 0), OK, ("run", [])],
                   11, 1, [4, 0, 2, 4, 0, 1, 2, 3, 0, 2, 1, 2, 1, 2, 0, 2, 2])


class AgainstAllRuns(PlantTest):
    """Of one quantity with a mark there are few enough sequences of states to look at each."""

    def test_the_first_of_all_sequences(self):
        states = list(itertools.product(range(3), range(3)))
        readings = [(name, t, 0, value) for name in ("seen", "goes") for t in range(3) for value in range(3)]
        for one, other in itertools.combinations(readings, 2):
            count = max(one[1], other[1]) + 1
            runs = [run for run in itertools.product(states, repeat=count)
                    if all(run[t][0 if name == "seen" else 1] == value for name, t, i, value in (one, other))
                    and all(oracle.follows(1, run[t], run[t + 1]) for t in range(count - 1))]
            still_runs = [run for run in runs if all(d == 1 for p, d in run)]
            calls = quantities(1) + [("still", 0), one, other, OK, ("run", []), ("run", [0])]
            kept, given_up = [[count, *sum(min(some), ())] if some else [-33] for some in (still_runs, runs)]
            self.assertEqual(ask(calls)[-3:], [[1 if still_runs else 0], kept, given_up], calls)
