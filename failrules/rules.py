"""Rules: a tuple of a kind and of the numbers that its call was given, and whether one holds in a state."""

from failrules.pairs import FALLING, RISING, STEADY, place_of_mark
from failrules.states import direction_in, place_in

MORE = "more"
LESS = "less"
SUM = "sum"
RATE = "rate"
STILL = "still"
MEET = "meet"


def broken_in(state, rules):
    return [r for r, rule in enumerate(rules) if not holds(rule, state)]


def holds(rule, state):
    kind = rule[0]
    if kind == MORE:
        return direction_in(state, rule[1]) == direction_in(state, rule[2])
    if kind == LESS:
        return are_opposite(direction_in(state, rule[1]), direction_in(state, rule[2]))
    if kind == SUM:
        return may_sum(direction_in(state, rule[1]), direction_in(state, rule[2]), direction_in(state, rule[3]))
    if kind == RATE:
        return direction_in(state, rule[3]) == direction_by(state, rule[1], rule[2])
    if kind == STILL:
        return direction_in(state, rule[1]) == STEADY
    return direction_by(state, rule[1], rule[2]) == direction_by(state, rule[3], rule[4])


def are_opposite(one, other):
    return one + other == FALLING + RISING


def may_sum(one, other, total):
    if one == STEADY:
        return total == other
    if other == STEADY:
        return total == one
    return one != other or total == one


def direction_by(state, quantity, mark):
    place = place_in(state, quantity)
    if place < place_of_mark(mark):
        return FALLING
    if place > place_of_mark(mark):
        return RISING
    return STEADY
