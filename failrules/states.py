"""States: a tuple with the place and the direction of quantity 0, those of quantity 1, and so on.

Tuples compare number by number, and so they are in the order that states have.
"""

from failrules.pairs import next_pairs, pairs_of


def place_in(state, quantity):
    return state[2 * quantity]


def direction_in(state, quantity):
    return state[2 * quantity + 1]


# The states are in order if the choices of each quantity are.
def states_from(choices):
    states = [()]
    for pairs in choices:
        longer = []
        for state in states:
            for pair in pairs:
                longer.append(state + pair)
        states = longer
    return states


def states_of(marks):
    return states_from([pairs_of(count) for count in marks])


def next_states(state, marks):
    choices = []
    for quantity, count in enumerate(marks):
        choices.append(next_pairs(place_in(state, quantity), direction_in(state, quantity), count))
    return states_from(choices)
