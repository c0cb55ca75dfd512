"""Readings, and the runs that have what was seen.

A reading is a tuple: its moment, its quantity, 1 if it's a direction, or 0 if it's a place, and that one.
"""

from failrules.rules import broken_in
from failrules.rulesets import all_of, has_one_within, is_within, set_of
from failrules.states import next_states, states_of


def moments_of(readings):
    return max([reading[0] for reading in readings], default=0) + 1


def has_seen(state, moment, readings):
    return all([state[2 * seen[1] + seen[2]] == seen[3] for seen in readings if seen[0] == moment])


# What many sets of rules are tried on, worked out once: by moment the states that have what was seen then, in order;
# by state the set of rules that it breaks; and by state what follows it, as far as that was asked for.
class Case:
    def __init__(self, marks, rules, readings):
        states = states_of(marks)
        self.marks = marks
        self.count = len(rules)
        self.seen = []
        for moment in range(moments_of(readings)):
            self.seen.append([state for state in states if has_seen(state, moment, readings)])
        self.broken = dict([(state, set_of(broken_in(state, rules))) for state in states])
        self.following = {}

    def followers(self, state):
        if state not in self.following:
            self.following[state] = next_states(state, self.marks)
        return self.following[state]


# For each moment the states at which a run without these rules may have come by then.
def states_reached(case, given_up):
    layers = []
    for seen in case.seen:
        layer = [state for state in seen if is_within(case.broken[state], given_up)]
        if layers:
            layer = those_behind(case, layer, layers[-1])
        layers.append(layer)
    return layers


def those_behind(case, layer, before):
    behind = {}
    for state in before:
        for follower in case.followers(state):
            behind[follower] = True
    return [state for state in layer if state in behind]


def has_run(case, given_up):
    return len(states_reached(case, given_up)[-1]) > 0


# For each moment the states that some run without these rules has then: of those reached the ones that go on to the
# last moment. If there's no run, there's no state at any moment.
def states_by_moment(case, given_up):
    reached = states_reached(case, given_up)
    layers = [reached[-1]]
    for layer in reversed(reached[:-1]):
        layers.insert(0, those_ahead(case, layer, layers[0]))
    return layers


def those_ahead(case, layer, later):
    within = dict([(state, True) for state in later])
    return [state for state in layer if any([follower in within for follower in case.followers(state)])]


# No states at all are given back if there's no run: a run has at least one state, of moment 0.
def first_run(case, given_up):
    layers = states_by_moment(case, given_up)
    if not layers[0]:
        return []
    run = [layers[0][0]]
    for layer in layers[1:]:
        run.append(those_behind(case, layer, [run[-1]])[0])
    return run


# A part of a set is a lesser number, so the least ones come first, and what has one of them within it is passed by.
def least_sets(case):
    found = []
    for ruleset in range(all_of(case.count) + 1):
        if not has_one_within(ruleset, found) and has_run(case, ruleset):
            found.append(ruleset)
    return found
