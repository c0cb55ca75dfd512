"""Point 3: least sets and clashes, and what is asked of them."""

from tests.helper import BEGIN, LARGEST, OK, PlantTest, ask, quantities

CANT_BE = [("goes", 0, 0, 0), ("goes", 0, 0, 2)]
NAMES = ("ok", "least", "fewest", "suspects", "sure", "clashes")
NONE = [-33]

# One rule is broken by what was seen, and another one isn't.
ONE_BROKEN = quantities(0, 0) + [("still", 0), ("still", 1), ("goes", 0, 1, 2)]
# Two rules can't both hold.
ONE_OF_TWO = quantities(0, 0) + [("more", 0, 1), ("less", 0, 1), ("goes", 0, 0, 2)]
# Rules 0 and 1 each clash with rule 2: so either it fails, or both of them.
TWO_OR_ONE = quantities(0, 0, 0) + [("more", 0, 1), ("more", 0, 2), ("still", 0), ("goes", 0, 1, 2), ("goes", 0, 2, 2)]
# Rule 0 fails surely, and one of 1 and 2.
SURE_AND_ONE = quantities(0, 0, 0) + [("still", 2), ("more", 0, 1), ("less", 0, 1), ("goes", 0, 0, 0), ("goes", 0, 2, 0)]
# Of three rules any two hold together, but a can't be at both marks; nothing was seen.
THREE_TOGETHER = quantities(2, 0) + [("rate", 0, 0, 1), ("rate", 0, 1, 1), ("still", 1)]
# Rule 4 fails surely; 0 and 2 are one rule, so are 1 and 3, and each of the former clashes with each of the latter.
FIVE = quantities(0, 0) + [("more", 0, 1), ("less", 0, 1), ("more", 1, 0), ("less", 1, 0), ("still", 0), ("goes", 2, 0, 2)]


class Sets(PlantTest):
    def check_sets(self, calls, least, fewest, suspects, sure, clashes):
        """Least sets and clashes are given as lists of rules, in the order of their numbers."""
        numbers = [[sum(2 ** r for r in rules) for rules in sets] for sets in (least, clashes)]
        expected = [[1 if [] in least else 0], [len(least), *numbers[0]]]
        expected += [NONE if rules is None else [len(rules), *rules] for rules in (fewest, suspects, sure)]
        expected.append([len(clashes), *numbers[1]])
        self.assertEqual(ask(calls + [(name,) for name in NAMES])[-6:], expected, calls)
        for name, sets in (("nth", least), ("clash", clashes)):
            for k, rules in enumerate(sets):
                self.check(calls + [(name, k)], [len(rules), *rules])
            for k in (len(sets), len(sets) + 1, 31, 32, 255, LARGEST):
                self.check_refused(calls, (name, k), -33)
        for name, rules in (("fewest", fewest), ("sure", sure)):
            if rules is None:
                self.check_refused(calls, (name,), -33)

    def test_one_rule_is_broken(self):
        self.check_sets(ONE_BROKEN, [[1]], [1], [1], [1], [[1]])

    def test_one_of_two(self):
        self.check_sets(ONE_OF_TWO, [[0], [1]], [0], [0, 1], [], [[0, 1]])

    def test_two_or_one(self):
        # The lesser number is not the one with fewer rules.
        self.check_sets(TWO_OR_ONE, [[0, 1], [2]], [2], [0, 1, 2], [], [[0, 2], [1, 2]])

    def test_one_surely_and_one_of_two(self):
        self.check_sets(SURE_AND_ONE, [[0, 1], [0, 2]], [0, 1], [0, 1, 2], [0], [[0], [1, 2]])

    def test_three_that_can_not_be_together(self):
        self.check_sets(THREE_TOGETHER, [[0], [1], [2]], [0], [0, 1, 2], [], [[0, 1, 2]])

    def test_five_rules(self):
        self.check_sets(FIVE, [[0, 2, 4], [1, 3, 4]], [0, 2, 4], [0, 1, 2, 3, 4], [4],
                        [[0, 1], [1, 2], [0, 3], [2, 3], [4]])

    def test_all_five_fail(self):
        self.check_sets(quantities(0) + [("still", 0)] * 5 + [("goes", 0, 0, 0)], [[0, 1, 2, 3, 4]], [0, 1, 2, 3, 4],
                        [0, 1, 2, 3, 4], [0, 1, 2, 3, 4], [[0], [1], [2], [3], [4]])

    def test_a_last_rule_alone(self):
        calls = quantities(0, 0) + [("still", 0)] * 4 + [("still", 1), ("goes", 0, 1, 0)]
        self.check_sets(calls, [[4]], [4], [4], [4], [[4]])

    def test_all_rules_hold(self):
        self.check_sets(quantities(0, 0) + [("more", 0, 1), ("goes", 0, 0, 2)], [[]], [], [], [], [])
        self.check_sets(quantities(0) + [("still", 0)] * 5, [[]], [], [], [], [])

    def test_no_rules(self):
        self.check_sets([BEGIN], [[]], [], [], [], [])
        self.check_sets(quantities(3), [[]], [], [], [], [])
        self.check_sets(quantities(3) + [("seen", 0, 0, 0), ("seen", 3, 0, 3)], [[]], [], [], [], [])

    def test_nothing_explains(self):
        # The empty set is the one clash: not even to give up all rules is enough.
        for rules in ([], [("still", 0)], [("still", 0)] * 5):
            self.check_sets(quantities(0) + rules + CANT_BE, [], None, [], None, [[]])

    def test_readings_that_can_not_be_by_what_follows(self):
        for readings in ([("seen", 0, 0, 0), ("seen", 1, 0, 2)], [("goes", 0, 0, 0), ("goes", 1, 0, 2)],
                         [("seen", 0, 0, 0), ("seen", 3, 0, 4)]):
            self.check_sets(quantities(2) + [("still", 0)] + readings, [], None, [], None, [[]])

    def test_a_rule_that_is_there_twice(self):
        calls = quantities(0) + [("still", 0), ("still", 0), ("goes", 0, 0, 2)]
        self.check_sets(calls, [[0, 1]], [0, 1], [0, 1], [0, 1], [[0], [1]])
        calls = quantities(0, 0) + [("more", 0, 1), ("more", 0, 1), ("less", 0, 1), ("goes", 0, 0, 2)]
        self.check_sets(calls, [[0, 1], [2]], [2], [0, 1, 2], [], [[0, 2], [1, 2]])

    def test_a_rule_that_holds_by_chance(self):
        # Both are steady, so less holds, though more does, too; then only more can.
        calls = quantities(0, 0) + [("less", 0, 1), ("more", 0, 1), ("goes", 0, 0, 1), ("goes", 0, 1, 1)]
        self.check_sets(calls, [[]], [], [], [], [])
        self.check_sets(calls + [("goes", 1, 0, 2), ("goes", 1, 1, 2)], [[0]], [0], [0], [0], [[0]])

    def test_a_moment_at_which_nothing_was_seen(self):
        # Below the mark, then at it: it rose, though nothing was seen of it then.
        calls = quantities(1) + [("still", 0), ("seen", 0, 0, 0)]
        self.check_sets(calls + [("seen", 3, 0, 0)], [[]], [], [], [], [])
        self.check_sets(calls + [("seen", 3, 0, 1)], [[0]], [0], [0], [0], [[0]])

    def test_a_moment_more_breaks_a_rule(self):
        # a rises from its mark and b stays at its own: they meet at moment 0, and can't a moment later. Of quantity 2
        # there's nothing to be seen but that there was a moment 1.
        calls = quantities(1, 1, 0) + [("meet", 0, 0, 1, 0), ("seen", 0, 0, 1), ("goes", 0, 0, 2), ("goes", 0, 1, 1)]
        self.check_sets(calls, [[]], [], [], [], [])
        self.check_sets(calls + [("seen", 0, 2, 0)], [[]], [], [], [], [])
        self.check_sets(calls + [("seen", 1, 2, 0)], [[0]], [0], [0], [0], [[0]])

    def test_what_changes_changes_them(self):
        calls = ONE_OF_TWO + [("least",), ("drop", 0), ("least",), ("still", 0), ("least",), ("unsay", 0), ("least",)]
        self.assertEqual(ask(calls)[-7:], [[2, 1, 2], [1], [1, 0], [1], [1, 2], [0], [1, 0]])
        calls = ONE_OF_TWO + [("clashes",), ("goes", 0, 1, 2), ("clashes",), BEGIN, ("clashes",), OK]
        self.assertEqual(ask(calls)[-6:], [[1, 3], [1], [1, 2], [0], [0], [1]])
