"""What the calls ought to answer, told once more and as plainly as the words have it, with no thought of speed."""

import functools
import itertools


def follows(marks, pair, later):
    """True if later follows pair."""
    place, direction = pair
    later_place, later_direction = later
    if {direction, later_direction} == {0, 2}:
        return False
    step = later_place - place
    if direction == 1:
        return step == 0
    towards = 1 if direction == 2 else -1
    if place in [2 * mark + 1 for mark in range(marks)]:
        return step == towards
    end = 2 * marks if direction == 2 else 0
    return step == 0 or (place != end and step == towards)


def side(place, mark):
    """below, at or above."""
    at = 2 * mark + 1
    return "below" if place < at else "at" if place == at else "above"


def holds(rule, state):
    """True if the rule, such as ("more", 0, 1), holds in the state, a tuple of pairs."""
    kind, *given = rule
    if kind == "more":
        a, b = given
        return (state[a][1], state[b][1]) in [(0, 0), (1, 1), (2, 2)]
    if kind == "less":
        a, b = given
        return (state[a][1], state[b][1]) in [(0, 2), (1, 1), (2, 0)]
    if kind == "sum":
        a, b, c = given
        may = {
            (0, 0): [0], (0, 1): [0], (0, 2): [0, 1, 2], (1, 0): [0], (1, 1): [1], (1, 2): [2],
            (2, 0): [0, 1, 2], (2, 1): [2], (2, 2): [2],
        }
        return state[c][1] in may[state[a][1], state[b][1]]
    if kind == "rate":
        a, j, b = given
        return state[b][1] == {"below": 0, "at": 1, "above": 2}[side(state[a][0], j)]
    if kind == "still":
        return state[given[0]][1] == 1
    a, j, b, k = given
    return side(state[a][0], j) == side(state[b][0], k)


def all_states(marks):
    """All states, in order."""
    pairs = [itertools.product(range(2 * m + 1), range(3)) for m in marks]
    return sorted(itertools.product(*pairs))


def first_run(marks, rules, readings):
    """The states of the first run, or None."""
    count = max([t for t, i, what, value in readings], default=0) + 1
    fitting = [state for state in all_states(marks) if all(holds(rule, state) for rule in rules)]
    layers = []
    for moment in range(count):
        seen = [(i, what, value) for t, i, what, value in readings if t == moment]
        layers.append([s for s in fitting if all(s[i][what] == value for i, what, value in seen)])

    @functools.lru_cache(maxsize=None)
    def rest_of_run(moment, before):
        if moment == count:
            return ()
        for state in layers[moment]:
            if before is None or all(map(follows, marks, before, state)):
                rest = rest_of_run(moment + 1, state)
                if rest is not None:
                    return (state,) + rest
        return None

    return rest_of_run(0, None)


class Oracle:
    """Answers one call after another."""

    def __init__(self):
        self.begun = False
        self.marks, self.rules, self.readings = [], [], []

    def answer(self, call):
        name, *given = call
        if name == "begin":
            self.__init__()
            self.begun = True
            return [0]
        if not self.begun:
            return [-11]
        if name in ("more", "less", "sum", "rate", "still", "meet"):
            return self.rule(name, given)
        return getattr(self, name)(*given)

    def quantity(self, m):
        if m > 3:
            return [-22]
        product = 2 * m + 1
        for other in self.marks:
            product *= 2 * other + 1
        return self.one_more(self.marks, 3 if product <= 15 else 0, m)

    def one_more(self, things, most, thing):
        if len(things) >= most:
            return [-28]
        things.append(thing)
        return [len(things) - 1]

    def one_less(self, things, number):
        if number not in range(len(things)):
            return [-2]
        things[number:number + 1] = []
        return [len(things)]

    def rule(self, kind, given):
        named = {"more": (0, 1), "less": (0, 1), "sum": (0, 1, 2), "rate": (0, 2), "still": (0,), "meet": (0, 2)}[kind]
        of_rule = [given[n] for n in named]
        if any(i not in range(len(self.marks)) for i in of_rule):
            return [-2]
        if len(set(of_rule)) < len(of_rule):
            return [-22]
        if kind in ("rate", "meet") and given[1] not in range(self.marks[given[0]]):
            return [-22]
        if kind == "meet" and given[3] not in range(self.marks[given[2]]):
            return [-22]
        return self.one_more(self.rules, 5, (kind, *given))

    def drop(self, r):
        return self.one_less(self.rules, r)

    def unsay(self, k):
        return self.one_less(self.readings, k)

    def seen(self, t, i, p):
        return self.reading(t, i, 0, p)

    def goes(self, t, i, d):
        return self.reading(t, i, 1, d)

    def reading(self, t, i, what, value):
        if i not in range(len(self.marks)):
            return [-2]
        values = [range(2 * self.marks[i] + 1), range(3)][what]
        if t not in range(4) or value not in values:
            return [-22]
        return self.one_more(self.readings, 12, (t, i, what, value))

    def ok(self):
        return [0 if first_run(self.marks, self.rules, self.readings) is None else 1]

    def run(self, given_up):
        if any(given_up.count(r) > 1 or r not in range(len(self.rules)) for r in given_up):
            return [-22]
        kept = [rule for r, rule in enumerate(self.rules) if r not in given_up]
        states = first_run(self.marks, kept, self.readings)
        if states is None:
            return [-33]
        return [len(states)] + [number for state in states for pair in state for number in pair]


def ought(calls):
    """The answer that each call ought to give."""
    oracle = Oracle()
    return [oracle.answer(call) for call in calls]
