"""What the calls ought to answer, told once more and as plainly as the words have it, with no thought of speed."""

import functools
import itertools


def follows(marks, pair, later):
    """True if later follows pair."""
    place, direction = pair
    later_place, later_direction = later
    if {direction, later_direction} == {0, 2}:
        return False
    step = later_place - place
    if direction == 1:
        return step == 0
    towards = 1 if direction == 2 else -1
    if place in [2 * mark + 1 for mark in range(marks)]:
        return step == towards
    end = 2 * marks if direction == 2 else 0
    return step == 0 or (place != end and step == towards)


def side(place, mark):
    """below, at or above."""
    at = 2 * mark + 1
    return "below" if place < at else "at" if place == at else "above"


def holds(rule, state):
    """True if the rule, such as ("more", 0, 1), holds in the state, a tuple of pairs."""
    kind, *given = rule
    if kind == "more":
        a, b = given
        return (state[a][1], state[b][1]) in [(0, 0), (1, 1), (2, 2)]
    if kind == "less":
        a, b = given
        return (state[a][1], state[b][1]) in [(0, 2), (1, 1), (2, 0)]
    if kind == "sum":
        a, b, c = given
        may = {
            (0, 0): [0], (0, 1): [0], (0, 2): [0, 1, 2], (1, 0): [0], (1, 1): [1], (1, 2): [2],
            (2, 0): [0, 1, 2], (2, 1): [2], (2, 2): [2],
        }
        return state[c][1] in may[state[a][1], state[b][1]]
    if kind == "rate":
        a, j, b = given
        return state[b][1] == {"below": 0, "at": 1, "above": 2}[side(state[a][0], j)]
    if kind == "still":
        return state[given[0]][1] == 1
    a, j, b, k = given
    return side(state[a][0], j) == side(state[b][0], k)


def all_states(marks):
    """All states, in order."""
    pairs = [itertools.product(range(2 * m + 1), range(3)) for m in marks]
    return sorted(itertools.product(*pairs))


@functools.lru_cache(maxsize=10000)
def first_run(marks, rules, readings):
    """The states of the first run, or None; all that's given is tuples."""
    count = max([t for t, i, what, value in readings], default=0) + 1
    fitting = [state for state in all_states(marks) if all(holds(rule, state) for rule in rules)]
    layers = []
    for moment in range(count):
        seen = [(i, what, value) for t, i, what, value in readings if t == moment]
        layers.append([s for s in fitting if all(s[i][what] == value for i, what, value in seen)])

    @functools.lru_cache(maxsize=None)
    def rest_of_run(moment, before):
        if moment == count:
            return ()
        for state in layers[moment]:
            if before is None or all(map(follows, marks, before, state)):
                rest = rest_of_run(moment + 1, state)
                if rest is not None:
                    return (state,) + rest
        return None

    return rest_of_run(0, None)


def parts_of(rules):
    """All sets of some of these rules, the empty one and that of all among them."""
    rules = sorted(rules)
    return [frozenset(some) for n in range(len(rules) + 1) for some in itertools.combinations(rules, n)]


def number_of(ruleset):
    return sum(2 ** r for r in ruleset)


class Oracle:
    """Answers one call after another."""

    def __init__(self):
        self.begun = False
        self.marks, self.rules, self.readings = [], [], []

    def answer(self, call):
        name, *given = call
        if name == "begin":
            self.__init__()
            self.begun = True
            return [0]
        if not self.begun:
            return [-11]
        if name in ("more", "less", "sum", "rate", "still", "meet"):
            return self.rule(name, given)
        return getattr(self, name)(*given)

    def quantity(self, m):
        if m > 3:
            return [-22]
        product = 2 * m + 1
        for other in self.marks:
            product *= 2 * other + 1
        return self.one_more(self.marks, 3 if product <= 15 else 0, m)

    def one_more(self, things, most, thing):
        if len(things) >= most:
            return [-28]
        things.append(thing)
        return [len(things) - 1]

    def one_less(self, things, number):
        if number not in range(len(things)):
            return [-2]
        things[number:number + 1] = []
        return [len(things)]

    def rule(self, kind, given):
        named = {"more": (0, 1), "less": (0, 1), "sum": (0, 1, 2), "rate": (0, 2), "still": (0,), "meet": (0, 2)}[kind]
        of_rule = [given[n] for n in named]
        if any(i not in range(len(self.marks)) for i in of_rule):
            return [-2]
        if len(set(of_rule)) < len(of_rule):
            return [-22]
        if kind in ("rate", "meet") and given[1] not in range(self.marks[given[0]]):
            return [-22]
        if kind == "meet" and given[3] not in range(self.marks[given[2]]):
            return [-22]
        return self.one_more(self.rules, 5, (kind, *given))

    def drop(self, r):
        return self.one_less(self.rules, r)

    def unsay(self, k):
        return self.one_less(self.readings, k)

    def seen(self, t, i, p):
        return self.one_seen(t, i, 0, p)

    def goes(self, t, i, d):
        return self.one_seen(t, i, 1, d)

    def refusal(self, t, i, what, value):
        if i not in range(len(self.marks)):
            return [-2]
        values = [range(2 * self.marks[i] + 1), range(3)][what]
        if t not in range(4) or value not in values:
            return [-22]
        return None

    def one_seen(self, t, i, what, value):
        return self.refusal(t, i, what, value) or self.one_more(self.readings, 12, (t, i, what, value))

    def run_without(self, given_up, readings):
        kept = tuple(rule for r, rule in enumerate(self.rules) if r not in given_up)
        return first_run(tuple(self.marks), kept, tuple(readings))

    def does_explain(self, given_up, readings):
        return self.run_without(given_up, readings) is not None

    def is_wrong(self, given_up):
        return any(given_up.count(r) > 1 or r not in range(len(self.rules)) for r in given_up)

    def ok(self):
        return [int(self.does_explain([], self.readings))]

    def explains(self, given_up):
        return [-22] if self.is_wrong(given_up) else [int(self.does_explain(given_up, self.readings))]

    def run(self, given_up):
        if self.is_wrong(given_up):
            return [-22]
        states = self.run_without(given_up, self.readings)
        if states is None:
            return [-33]
        return [len(states)] + [number for state in states for pair in state for number in pair]

    def moments(self):
        return 1 + max([t for t, i, what, value in self.readings], default=0)

    def may(self, t, i, given_up):
        if i not in range(len(self.marks)):
            return [-2]
        if t not in range(self.moments()) or self.is_wrong(given_up):
            return [-22]
        if not self.does_explain(given_up, self.readings):
            return [-33]
        # In some run the quantity is there at that moment: had it been seen there, too, there would be a run.
        places = [p for p in range(2 * self.marks[i] + 1) if self.does_explain(given_up, self.readings + [(t, i, 0, p)])]
        return [len(places)] + places

    def least_sets(self, readings):
        sets = [some for some in parts_of(range(len(self.rules))) if self.does_explain(some, readings)
                and not any(self.does_explain(part, readings) for part in parts_of(some) if part != some)]
        return sorted(sets, key=number_of)

    def all_clashes(self):
        everything = frozenset(range(len(self.rules)))
        sets = [some for some in parts_of(everything) if not self.does_explain(everything - some, self.readings)
                and all(self.does_explain(everything - some | {r}, self.readings) for r in some)]
        return sorted(sets, key=number_of)

    def sets_told(self, sets):
        return [len(sets)] + [number_of(some) for some in sets]

    def rules_told(self, rules):
        return [len(rules)] + sorted(rules)

    def kth_told(self, sets, k):
        return self.rules_told(sets[k]) if k in range(len(sets)) else [-33]

    def least(self):
        return self.sets_told(self.least_sets(self.readings))

    def nth(self, k):
        return self.kth_told(self.least_sets(self.readings), k)

    def fewest(self):
        sets = sorted(self.least_sets(self.readings), key=lambda some: (len(some), number_of(some)))
        return self.kth_told(sets, 0)

    def suspects(self):
        sets = self.least_sets(self.readings)
        return self.rules_told([r for r in range(len(self.rules)) if any(r in some for some in sets)])

    def sure(self):
        sets = self.least_sets(self.readings)
        if sets == []:
            return [-33]
        return self.rules_told([r for r in range(len(self.rules)) if all(r in some for some in sets)])

    def clashes(self):
        return self.sets_told(self.all_clashes())

    def clash(self, k):
        return self.kth_told(self.all_clashes(), k)

    def tells(self, t, i, p):
        return self.refusal(t, i, 0, p) or self.sets_told(self.least_sets(self.readings + [(t, i, 0, p)]))

    def spare(self, k):
        if k not in range(len(self.readings)):
            return [-2]
        others = [reading for number, reading in enumerate(self.readings) if number != k]
        return [int(self.least_sets(others) == self.least_sets(self.readings))]

    def reading(self, k):
        return [*self.readings[k]] if k in range(len(self.readings)) else [-2]

    def state(self):
        return [len(self.marks), len(self.rules), len(self.readings), self.moments(), *self.marks]


def ought(calls):
    """The answer that each call ought to give."""
    oracle = Oracle()
    return [oracle.answer(call) for call in calls]
