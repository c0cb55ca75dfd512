"""Readings, and the runs that have what was seen.

A reading is a tuple: its moment, its quantity, 1 if it's a direction, or 0 if it's a place, and that one.
"""

from failrules.rules import fits
from failrules.states import next_states, states_of


def moments_of(readings):
    return max([reading[0] for reading in readings], default=0) + 1


def has_seen(state, moment, readings):
    return all([state[2 * seen[1] + seen[2]] == seen[3] for seen in readings if seen[0] == moment])


def goes_on(state, later, marks):
    return any([follower in later for follower in next_states(state, marks)])


# For each moment the states from which a run goes on to the last one: from the last moment back, so that the first
# run is found afterwards without a wrong turn.
def states_by_moment(marks, rules, readings):
    fitting = [state for state in states_of(marks) if fits(state, rules)]
    layers = []
    for moment in range(moments_of(readings) - 1, -1, -1):
        states = [state for state in fitting if has_seen(state, moment, readings)]
        if layers:
            later = layers[0]
            states = [state for state in states if goes_on(state, later, marks)]
        layers.insert(0, dict([(state, True) for state in states]))
    return layers


# No states at all are given back if there's no run: a run has at least one state, of moment 0.
def first_run(marks, rules, readings):
    run = []
    choices = states_of(marks)
    for layer in states_by_moment(marks, rules, readings):
        within = [state for state in choices if state in layer]
        if not within:
            return []
        run.append(within[0])
        choices = next_states(within[0], marks)
    return run
