"""Point 5: what holds over the whole program."""

import itertools
import random
import unittest

from tests.helper import BEGIN, LARGEST, MOST_CALLS, PlantTest, ask, quantities
from tests.test_random import line_of_right_calls, right_rule

CASES = 250
TELLING = ("begin", "quantity", "more", "less", "sum", "rate", "still", "meet", "seen", "goes")


def drawn_case(draw):
    """Calls that tell of quantities, of up to 5 rules and up to 8 readings."""
    line = [call for call in line_of_right_calls(draw) if call[0] in TELLING]
    rules = [call for call in line if call[0] in TELLING[2:8]][:5]
    readings = [call for call in line if call[0] in TELLING[8:]][:8]
    return [call for call in line if call[0] in TELLING[:2]], rules, readings


def asked(calls, more):
    """What is answered to more calls behind the calls, if need be on several objects."""
    told = []
    room = MOST_CALLS - len(calls)
    for at in range(0, len(more), room):
        told += ask(calls + more[at:at + room])[len(calls):]
    return told


def all_sets(count):
    return [list(rules) for n in range(count + 1) for rules in itertools.combinations(range(count), n)]


def explaining(calls, count):
    """The sets of rules, as frozensets, that explain."""
    sets = all_sets(count)
    told = asked(calls, [("explains", rules) for rules in sets])
    return {frozenset(rules) for rules, answer in zip(sets, told) if answer == [1]}


def sets_told(answer):
    """An answer of least, clashes or tells, as a list of frozensets."""
    assert answer[0] == len(answer) - 1
    return [frozenset(r for r in range(5) if ruleset // 2 ** r % 2) for ruleset in answer[1:]]


def least_that_meet(sets, count):
    """The least sets of rules that have a rule of each of the sets."""
    meeting = [frozenset(rules) for rules in all_sets(count) if all(some & set(rules) for some in sets)]
    return {some for some in meeting if not any(other < some for other in meeting)}


class WhatHolds(unittest.TestCase):
    def setUp(self):
        self.draw = random.Random(2026)

    def cases(self):
        for n in range(CASES):
            begun, rules, readings = drawn_case(self.draw)
            yield begun, rules, readings, begun + rules + readings

    def test_to_give_up_a_rule_more_never_makes_less_to_be(self):
        for begun, rules, readings, calls in self.cases():
            sets = explaining(calls, len(rules))
            for some in sets:
                for r in range(len(rules)):
                    self.assertIn(some | {r}, sets, calls)

    def test_nor_does_it_take_away_a_place(self):
        for begun, rules, readings, calls in self.cases():
            t = max([call[1] for call in readings], default=0)
            sets = all_sets(len(rules))
            told = asked(calls, [("may", t, 0, given_up) for given_up in sets])
            places = {frozenset(some): set(answer[1:]) for some, answer in zip(sets, told)}
            for some, other in itertools.product(places, repeat=2):
                if some <= other:
                    self.assertLessEqual(places[some], places[other], calls)

    def test_a_reading_more_never_makes_something_explain_that_did_not(self):
        for begun, rules, readings, calls in self.cases():
            k = self.draw.randrange(len(readings))
            fewer = begun + rules + readings[:k] + readings[k + 1:]
            self.assertLessEqual(explaining(calls, len(rules)), explaining(fewer, len(rules)), (calls, k))

    def test_what_it_tells_has_a_least_set_within_it(self):
        for begun, rules, readings, calls in self.cases():
            more = [("least",)] + [("tells", t, i, 0) for t in range(4) for i in range(len(begun) - 1)]
            least, *told = [sets_told(answer) for answer in asked(calls, more)]
            for some in itertools.chain(*told):
                self.assertTrue(any(one <= some for one in least), calls)

    def test_least_sets_and_clashes(self):
        for begun, rules, readings, calls in self.cases():
            least, clashes = [sets_told(answer) for answer in asked(calls, [("least",), ("clashes",)])]
            self.assertEqual(len(set(least)), len(least), calls)
            self.assertEqual(len(set(clashes)), len(clashes), calls)
            self.assertEqual(set(least), least_that_meet(clashes, len(rules)), calls)
            if least:
                self.assertEqual(set(clashes), least_that_meet(least, len(rules)), calls)
            else:
                self.assertEqual(clashes, [frozenset()], calls)

    def test_they_are_what_explains_says(self):
        for begun, rules, readings, calls in self.cases():
            sets = explaining(calls, len(rules))
            everything = set(range(len(rules)))
            least, clashes = [sets_told(answer) for answer in asked(calls, [("least",), ("clashes",)])]
            self.assertEqual(set(least), {some for some in sets if not any(other < some for other in sets)}, calls)
            for rules_of_clash in map(frozenset, all_sets(len(rules))):
                others = everything - rules_of_clash
                is_clash = others not in sets and all(others | {r} in sets for r in rules_of_clash)
                self.assertEqual(is_clash, rules_of_clash in clashes, calls)

    def test_they_stand_by_their_numbers(self):
        for begun, rules, readings, calls in self.cases():
            for answer in asked(calls, [("least",), ("clashes",), ("tells", 1, 0, 0)]):
                self.assertEqual(answer[1:], sorted(answer[1:]), calls)

    def test_the_kth_the_fewest_those_in_some_and_in_each(self):
        for begun, rules, readings, calls in self.cases():
            least, clashes, fewest, suspects, sure = asked(
                calls, [("least",), ("clashes",), ("fewest",), ("suspects",), ("sure",)])
            for name, answer in (("nth", least), ("clash", clashes)):
                sets = [[len(some), *sorted(some)] for some in sets_told(answer)] + [[-33]]
                self.assertEqual(asked(calls, [(name, k) for k in range(len(sets))]), sets, calls)
            sets = sets_told(least)
            some = sorted(frozenset().union(*sets))
            self.assertEqual(suspects, [len(some), *some], calls)
            each = sorted(frozenset(range(5)).intersection(*sets))
            self.assertEqual(sure, [len(each), *each] if sets else [-33], calls)
            first = min(zip(map(len, sets), least[1:], map(sorted, sets)), default=None)
            self.assertEqual(fewest, [first[0], *first[2]] if sets else [-33], calls)


# Sequences of whole numbers, one number more than there are moments: so there's a change at each moment.


def sign(number):
    return (number > 0) - (number < 0)


def direction(values, t):
    return 1 + sign(values[t + 1] - values[t])


def place(value, marks):
    return sum((value >= mark) + (value > mark) for mark in marks)


def drawn_walk(draw, count):
    values = [draw.randint(-2, 2)]
    while len(values) <= count:
        values.append(values[-1] + draw.choice([-2, -1, 0, 0, 1, 2]))
    return values


def drawn_numbers(draw, marks, count):
    """Some quantities go by the others, so that rules are obeyed by more than chance; marks are whole numbers, too."""
    at = [sorted(draw.sample((-4, -2, 0, 2, 4), m)) for m in marks]
    values = [drawn_walk(draw, count)]
    for i in range(1, len(marks)):
        form = draw.choice(["walk", "more", "less", "rate", "sum"])
        if form == "more":
            values.append([number + 2 for number in values[0]])
        elif form == "less":
            values.append([-number for number in values[0]])
        elif form == "rate" and at[0]:
            sums = itertools.accumulate([number - at[0][0] for number in values[0]], initial=draw.randint(-1, 1))
            values.append(list(sums)[:count + 1])
        elif form == "sum" and i == 2:
            values.append([one + other for one, other in zip(values[0], values[1])])
        else:
            values.append(drawn_walk(draw, count))
    return at, values


def goes_by_steps(values, marks, count):
    """True if no place is jumped past, and no rising is at once a falling."""
    for t in range(count):
        if abs(place(values[t + 1], marks) - place(values[t], marks)) > 1:
            return False
        if t + 1 < count and abs(direction(values, t + 1) - direction(values, t)) > 1:
            return False
    return True


def obeys(rule, at, values, t):
    """True if the numbers obey the rule at a moment."""
    kind, *given = rule
    change = [sign(some[t + 1] - some[t]) for some in values]
    if kind == "more":
        return change[given[0]] == change[given[1]]
    if kind == "less":
        return change[given[0]] == -change[given[1]]
    if kind == "sum":
        one, other, total = [change[i] for i in given]
        return total == one + other if 0 in (one, other) else one != other or total == one
    if kind == "rate":
        a, j, b = given
        return change[b] == sign(values[a][t] - at[a][j])
    if kind == "still":
        return change[given[0]] == 0
    a, j, b, k = given
    return sign(values[a][t] - at[a][j]) == sign(values[b][t] - at[b][k])


class WholeNumbers(unittest.TestCase):
    def drawn(self, choices):
        """Marks, rules, all readings there could be, and the rules that the numbers break."""
        draw = random.Random(516)
        left = 1000
        while left:
            marks, count = draw.choice(choices)
            at, values = drawn_numbers(draw, marks, count)
            if not all(goes_by_steps(some, own, count) for some, own in zip(values, at)):
                continue
            left -= 1
            rules = [right_rule(draw, marks) for n in range(draw.randint(1, 5))]
            broken = {r for r, rule in enumerate(rules) if not all(obeys(rule, at, values, t) for t in range(count))}
            readings = [("seen", t, i, place(values[i][t], at[i])) for i in range(len(marks)) for t in range(count)]
            readings += [("goes", t, i, direction(values[i], t)) for i in range(len(marks)) for t in range(count)]
            draw.shuffle(readings)
            yield marks, rules, readings, broken

    def test_a_least_set_lies_within_what_they_break(self):
        met = set()
        choices = [(marks, count) for marks in ([1, 1], [2, 1], [1, 0, 1], [0, 0, 0], [3], [0, 1, 1])
                   for count in (1, 2, 3, 4)]
        for marks, rules, readings, broken in self.drawn(choices):
            for some in (readings[:12], readings[:6], readings[:3]):
                least = sets_told(ask(quantities(*marks) + rules + some + [("least",)])[-1])
                self.assertTrue(any(one <= broken for one in least), (marks, rules, some, broken, least))
                met.add((len(rules), len(broken), len(least)))
        # Some, all and none of the rules were broken, and there were one and several least sets.
        self.assertGreaterEqual(len(met), 30)
        self.assertTrue({(5, 0, 1), (5, 5, 1), (5, 3, 2)} <= met, met)

    def test_where_all_is_seen_it_is_just_what_they_break(self):
        # So few quantities and moments that all of it is within 12 readings.
        choices = [([1, 1], 3), ([2, 1], 2), ([1, 0, 1], 2), ([0, 0, 0], 2), ([3], 4), ([0, 1, 1], 1)]
        for marks, rules, readings, broken in self.drawn(choices):
            self.assertLessEqual(len(readings), 12)
            least = sets_told(ask(quantities(*marks) + rules + readings + [("least",)])[-1])
            self.assertEqual(least, [broken], (marks, rules, readings))


# Each call that only asks, such as is answered and such as is refused, behind two quantities, three rules and two
# readings of moments 0 and 2.
ASKING = (
    ("ok",), ("run", []), ("run", [0, 1]), ("run", [2, 2]), ("run", [3]), ("explains", []), ("explains", [2, 0]),
    ("explains", [0, 0]), ("explains", [LARGEST]), ("least",), ("nth", 0), ("nth", 1), ("nth", 30), ("fewest",),
    ("suspects",), ("sure",), ("clashes",), ("clash", 0), ("clash", 7), ("may", 0, 0, []), ("may", 1, 1, [0, 1, 2]),
    ("may", 2, 0, [2, 1]), ("may", 3, 0, []), ("may", 0, 2, []), ("may", 0, 0, [3]), ("tells", 0, 0, 0),
    ("tells", 1, 1, 1), ("tells", 3, 1, 2), ("tells", 3, 0, 2), ("tells", 4, 0, 0), ("tells", 0, 2, 0),
    ("tells", 0, 0, 3), ("spare", 0), ("spare", 1), ("spare", 2), ("reading", 0), ("reading", 1), ("reading", 2),
    ("state",),
)
LOOKS = [("state",), ("reading", 0), ("reading", 1), ("least",), ("clashes",), ("run", [0, 1, 2])]


class NothingChanges(PlantTest):
    def setUp(self):
        rules = [("more", 0, 1), ("less", 0, 1), ("rate", 0, 0, 1)]
        self.calls = quantities(1, 1) + rules + [("seen", 0, 0, 0), ("goes", 2, 0, 2)]

    def test_each_call_is_there(self):
        self.assertEqual(len({call[0] for call in ASKING}), 15)

    def test_ahead_of_a_call_that_asks_and_behind_it(self):
        for call in ASKING:
            told = ask(self.calls + LOOKS + [call, call] + LOOKS)[len(self.calls):]
            self.assertEqual(told[:len(LOOKS)], told[-len(LOOKS):], call)
            self.assertEqual(told[len(LOOKS)], told[len(LOOKS) + 1], call)

    def test_in_whatever_order_they_are_asked(self):
        alone = {repr(call): ask(self.calls + [call])[-1] for call in ASKING}
        draw = random.Random(39)
        for n in range(60):
            some = draw.sample(ASKING, MOST_CALLS - len(self.calls))
            self.assertEqual(ask(self.calls + some)[len(self.calls):], [alone[repr(call)] for call in some])

    def test_what_is_told_behind_them_is_taken_as_ever(self):
        for call in ASKING:
            changes = [("still", 0), ("seen", 3, 1, 0), ("drop", 0), ("unsay", 0), ("least",), ("state",), ("reading", 1)]
            self.assertEqual(ask(self.calls + [call] + changes)[-7:], ask(self.calls + changes)[-7:], call)

    def test_with_twelve_readings_and_five_rules(self):
        full = quantities(1) + [("still", 0)] * 5 + [("goes", 1, 0, 2)] * 12
        for call in (("tells", 3, 0, 0), ("tells", 0, 0, 1), ("spare", 11), ("least",), ("may", 1, 0, [0, 1, 2, 3, 4])):
            told = ask(full + [("state",), call, ("state",), ("reading", 11), ("reading", 12)])
            self.assertEqual(told[-5], [1, 5, 12, 2, 1])
            self.assertEqual(told[-3:], [[1, 5, 12, 2, 1], [1, 0, 1, 2], [-2]], call)

    def test_a_begin_in_the_middle(self):
        self.check(self.calls + [("least",), BEGIN, ("least",), ("clashes",), ("state",)],
                   0, [1, 0], [0], [0, 0, 0, 1])
