"""Point 2, of explains and may."""

import itertools

from tests import oracle
from tests.helper import BEGIN, LARGEST, OK, PlantTest, ask, quantities

CANT_BE = [("goes", 0, 0, 0), ("goes", 0, 0, 2)]
# Lists that aren't right where there are two rules.
WRONG_LISTS = ([2], [5], [LARGEST], [0, 2], [2, 0], [0, 0], [1, 1], [0, 1, 0], [2, 2], [0] * 255, list(range(255)))


class Explains(PlantTest):
    def test_each_set_of_rules(self):
        calls = quantities(0, 0) + [("still", 0), ("still", 1), ("goes", 0, 0, 2)]
        self.check(calls + [("explains", []), ("explains", [0]), ("explains", [1]), ("explains", [0, 1]),
                            ("explains", [1, 0])], 0, 1, 0, 1, 1)

    def test_two_rules_of_which_one_must_go(self):
        calls = quantities(0, 0) + [("more", 0, 1), ("less", 0, 1), ("goes", 0, 0, 2)]
        self.check(calls + [("explains", []), ("explains", [0]), ("explains", [1]), ("explains", [0, 1])], 0, 1, 1, 1)

    def test_the_empty_list_answers_like_ok(self):
        for d in (0, 1, 2):
            calls = quantities(0) + [("still", 0), ("goes", 3, 0, d), OK, ("explains", [])]
            self.check(calls, 1 if d == 1 else 0, 1 if d == 1 else 0)

    def test_without_rules_readings_or_quantities(self):
        self.check([BEGIN, ("explains", [])], 1)
        self.check(quantities(2, 1) + [("explains", [])], 1)
        self.check(quantities(2, 1) + [("seen", 2, 0, 4), ("explains", [])], 1)
        self.check(quantities(2, 1) + [("still", 0), ("explains", []), ("explains", [0])], 1, 1)

    def test_nothing_explains(self):
        calls = quantities(0) + [("still", 0), ("still", 0)] + CANT_BE
        self.check(calls + [("explains", []), ("explains", [0]), ("explains", [0, 1])], 0, 0, 0)

    def test_lists_that_are_not_right(self):
        calls = quantities(1) + [("still", 0), ("still", 0)]
        for given_up in WRONG_LISTS:
            self.check_refused(calls, ("explains", given_up), -22)
            self.check_refused(calls + CANT_BE, ("explains", given_up), -22)
        self.check_refused([BEGIN], ("explains", [0]), -22)
        self.check_refused(quantities(0) + [("still", 0)] * 5, ("explains", [0, 1, 2, 3, 4, 5]), -22)

    def test_a_list_of_a_rule_that_was_dropped(self):
        calls = quantities(0) + [("still", 0), ("still", 0), ("goes", 0, 0, 2), ("explains", [0, 1]), ("drop", 0)]
        self.check(calls + [("explains", [0, 1]), ("explains", [1]), ("explains", [0])], 1, 1, -22, -22, 1)


class May(PlantTest):
    def test_all_places_where_nothing_was_seen(self):
        for m in (0, 1, 2, 3):
            self.check(quantities(m) + [("may", 0, 0, [])], [2 * m + 1, *range(2 * m + 1)])
        self.check(quantities(1, 2) + [("may", 0, 0, []), ("may", 0, 1, [])], [3, 0, 1, 2], [5, 0, 1, 2, 3, 4])

    def test_what_was_seen(self):
        for p in range(5):
            self.check(quantities(2, 1) + [("seen", 0, 0, p), ("may", 0, 0, []), ("may", 0, 1, [])],
                       [1, p], [3, 0, 1, 2])

    def test_what_may_come_of_what_was_seen(self):
        calls = quantities(1) + [("still", 0), ("seen", 0, 0, 0), ("goes", 2, 0, 1)]
        self.check(calls + [("may", t, 0, []) for t in (0, 1, 2)], [1, 0], [1, 0], [1, 0])
        self.check(calls + [("may", t, 0, [0]) for t in (0, 1, 2)], [1, 0], [2, 0, 1], [3, 0, 1, 2])

    def test_what_may_have_been_ahead_of_what_was_seen(self):
        self.check(quantities(1) + [("seen", 1, 0, 2), ("may", 0, 0, []), ("may", 1, 0, [])], [2, 1, 2], [1, 2])
        self.check(quantities(1) + [("seen", 3, 0, 2), ("may", 0, 0, [])], [3, 0, 1, 2])
        self.check(quantities(2) + [("seen", 2, 0, 4), ("may", 1, 0, []), ("may", 0, 0, [])], [2, 3, 4], [3, 2, 3, 4])

    def test_what_may_be_between(self):
        self.check(quantities(1) + [("seen", 0, 0, 0), ("seen", 2, 0, 2), ("may", 1, 0, [])], [1, 1])
        self.check(quantities(1) + [("seen", 0, 0, 0), ("seen", 3, 0, 2), ("may", 1, 0, []), ("may", 2, 0, [])],
                   [2, 0, 1], [2, 1, 2])

    def test_places_need_not_lie_side_by_side(self):
        # a is below both marks or above both: else b would have to change in two ways.
        calls = quantities(2, 0) + [("rate", 0, 0, 1), ("rate", 0, 1, 1)]
        self.check(calls + [("may", 0, 0, []), ("may", 0, 0, [0])], [2, 0, 4], [5, 0, 1, 2, 3, 4])

    def test_the_rules_that_are_given_up(self):
        calls = quantities(1, 1) + [("meet", 0, 0, 1, 0), ("still", 1), ("seen", 0, 0, 2), ("goes", 0, 1, 1)]
        self.check(calls + [("may", 0, 1, []), ("may", 0, 1, [1]), ("may", 0, 1, [0]), ("may", 0, 1, [1, 0])],
                   [1, 2], [1, 2], [3, 0, 1, 2], [3, 0, 1, 2])

    def test_no_such_quantity(self):
        for i in (1, 2, 3, 256, LARGEST):
            self.check_refused(quantities(1), ("may", 0, i, []), -2)
        self.check_refused([BEGIN], ("may", 0, 0, []), -2)

    def test_a_moment_that_was_not_looked_at(self):
        for t in (1, 2, 3, 4, LARGEST):
            self.check_refused(quantities(1), ("may", t, 0, []), -22)
        for last in (0, 1, 2, 3):
            calls = quantities(1) + [("seen", last, 0, 0)]
            self.check(calls + [("may", last, 0, [])], [1, 0])
            for t in (last + 1, last + 2, 4, LARGEST):
                self.check_refused(calls, ("may", t, 0, []), -22)

    def test_a_moment_that_is_looked_at_no_more(self):
        self.check(quantities(1) + [("seen", 2, 0, 0), ("may", 2, 0, []), ("unsay", 0), ("may", 2, 0, []),
                                    ("may", 0, 0, [])], [1, 0], 0, -22, [3, 0, 1, 2])

    def test_lists_that_are_not_right(self):
        calls = quantities(1) + [("still", 0), ("still", 0)]
        for given_up in WRONG_LISTS:
            self.check_refused(calls, ("may", 0, 0, given_up), -22)
        self.check_refused(quantities(1), ("may", 0, 0, [0]), -22)

    def test_it_does_not_explain(self):
        calls = quantities(0, 1) + [("still", 0), ("still", 1), ("goes", 1, 0, 2)]
        for t, i in itertools.product((0, 1), (0, 1)):
            self.check_refused(calls, ("may", t, i, []), -33)
            self.check_refused(calls, ("may", t, i, [1]), -33)
        self.check(calls + [("may", 1, 1, [0]), ("may", 0, 0, [0, 1])], [3, 0, 1, 2], [1, 0])
        self.check_refused(quantities(0) + CANT_BE, ("may", 0, 0, []), -33)

    def test_it_does_not_explain_at_a_later_moment(self):
        # At moment 0 there are states that fit and have what was seen then, but no run goes on from them.
        calls = quantities(2) + [("seen", 0, 0, 0), ("seen", 1, 0, 4)]
        self.check_refused(calls, ("may", 0, 0, []), -33)
        self.check_refused(calls, ("may", 1, 0, []), -33)

    def test_minus_2_ahead_of_minus_22(self):
        calls = quantities(1) + [("still", 0), ("still", 0)]
        for t, given_up in ((1, []), (0, [2]), (0, [0, 0]), (4, [5]), (LARGEST, [LARGEST])):
            self.check_refused(calls, ("may", t, 1, given_up), -2)
            self.check_refused([BEGIN], ("may", t, 0, given_up), -2)

    def test_minus_2_ahead_of_minus_33(self):
        self.check_refused(quantities(0) + CANT_BE, ("may", 0, 1, []), -2)
        self.check_refused(quantities(0) + CANT_BE, ("may", 1, 1, [0]), -2)

    def test_minus_22_ahead_of_minus_33(self):
        calls = quantities(0) + [("still", 0), ("still", 0)] + CANT_BE
        for t, given_up in ((1, []), (1, [0, 1]), (0, [2]), (0, [0, 0]), (4, [5])):
            self.check_refused(calls, ("may", t, 0, given_up), -22)


class AgainstAllRuns(PlantTest):
    """Of one quantity with a mark there are few enough sequences of states to look at each."""

    def test_the_places_of_all_sequences(self):
        states = list(itertools.product(range(3), range(3)))
        readings = [(name, t, 0, value) for name in ("seen", "goes") for t in range(3) for value in range(3)]
        for one, other in itertools.combinations(readings, 2):
            count = max(one[1], other[1]) + 1
            runs = [run for run in itertools.product(states, repeat=count)
                    if all(run[t][0 if name == "seen" else 1] == value for name, t, i, value in (one, other))
                    and all(oracle.follows(1, run[t], run[t + 1]) for t in range(count - 1))]
            still_runs = [run for run in runs if all(d == 1 for p, d in run)]
            calls = quantities(1) + [("still", 0), one, other, ("explains", []), ("explains", [0])]
            expected = [[int(bool(still_runs))], [int(bool(runs))]]
            for given_up, some in (([], still_runs), ([0], runs)):
                for t in range(count):
                    calls.append(("may", t, 0, given_up))
                    places = sorted({run[t][0] for run in some})
                    expected.append([len(places), *places] if some else [-33])
            self.assertEqual(ask(calls)[5:], expected, calls)
