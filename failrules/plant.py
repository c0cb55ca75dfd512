"""The calls on one plant, and what they answer."""

from failrules.pairs import RISING, last_place
from failrules.rules import LESS, MEET, MORE, RATE, STILL, SUM
from failrules.runs import first_run

MOST_QUANTITIES = 3
MOST_MARKS = 3
MOST_PLACES = 15
MOST_RULES = 5
MOST_READINGS = 12
LAST_MOMENT = 3

NO_SUCH = -2
NOT_BEGUN = -11
NOT_RIGHT = -22
TOO_MANY = -28
NONE_THERE = -33


class CallNotBuilt(NotImplementedError):
    pass


class Plant:
    def __init__(self):
        self.begun = False
        self.marks = []
        self.rules = []
        self.readings = []


def begin(plant):
    plant.begun = True
    plant.marks = []
    plant.rules = []
    plant.readings = []
    return [0]


def quantity(plant, m):
    if m > MOST_MARKS:
        return [NOT_RIGHT]
    if len(plant.marks) == MOST_QUANTITIES or places_multiplied(plant.marks + [m]) > MOST_PLACES:
        return [TOO_MANY]
    plant.marks.append(m)
    return [len(plant.marks) - 1]


def places_multiplied(marks):
    product = 1
    for count in marks:
        product = product * (last_place(count) + 1)
    return product


def has_quantity(plant, i):
    return i < len(plant.marks)


def has_mark(plant, i, j):
    return has_quantity(plant, i) and j < plant.marks[i]


def has_place(plant, i, p):
    return has_quantity(plant, i) and p <= last_place(plant.marks[i])


def more(plant, a, b):
    return add_rule(plant, (MORE, a, b), [a, b], a != b)


def less(plant, a, b):
    return add_rule(plant, (LESS, a, b), [a, b], a != b)


def sum_rule(plant, a, b, c):
    return add_rule(plant, (SUM, a, b, c), [a, b, c], a != b and a != c and b != c)


def rate(plant, a, j, b):
    return add_rule(plant, (RATE, a, j, b), [a, b], a != b and has_mark(plant, a, j))


def still(plant, a):
    return add_rule(plant, (STILL, a), [a], True)


def meet(plant, a, j, b, k):
    right = a != b and has_mark(plant, a, j) and has_mark(plant, b, k)
    return add_rule(plant, (MEET, a, j, b, k), [a, b], right)


# Whether the rest is right is found out ahead, but it counts only if the quantities are there: -2 comes first.
def add_rule(plant, rule, quantities, right):
    if not all([has_quantity(plant, i) for i in quantities]):
        return [NO_SUCH]
    if not right:
        return [NOT_RIGHT]
    if len(plant.rules) == MOST_RULES:
        return [TOO_MANY]
    plant.rules.append(rule)
    return [len(plant.rules) - 1]


def drop(plant, r):
    if r >= len(plant.rules):
        return [NO_SUCH]
    plant.rules.pop(r)
    return [len(plant.rules)]


def seen(plant, t, i, p):
    return add_reading(plant, (t, i, 0, p), has_place(plant, i, p))


def goes(plant, t, i, d):
    return add_reading(plant, (t, i, 1, d), d <= RISING)


def add_reading(plant, reading, right):
    if not has_quantity(plant, reading[1]):
        return [NO_SUCH]
    if reading[0] > LAST_MOMENT or not right:
        return [NOT_RIGHT]
    if len(plant.readings) == MOST_READINGS:
        return [TOO_MANY]
    plant.readings.append(reading)
    return [len(plant.readings) - 1]


def unsay(plant, k):
    if k >= len(plant.readings):
        return [NO_SUCH]
    plant.readings.pop(k)
    return [len(plant.readings)]


def ok(plant):
    return [1 if run_without(plant, []) else 0]


def run(plant, given_up):
    if not is_rule_list(plant, given_up):
        return [NOT_RIGHT]
    states = run_without(plant, given_up)
    if not states:
        return [NONE_THERE]
    answer = [len(states)]
    for state in states:
        answer.extend(state)
    return answer


def is_rule_list(plant, listed):
    return len(set(listed)) == len(listed) and all([r < len(plant.rules) for r in listed])


def run_without(plant, given_up):
    kept = [rule for r, rule in enumerate(plant.rules) if r not in given_up]
    return first_run(plant.marks, kept, plant.readings)


# By the number of the call: what carries it out (None: nothing does yet), how many whole numbers it is given,
# and whether a list stands behind these. The calls that are not built are here so that one can read past them,
# and they too answer before a begin.
CALLS = (
    (begin, 0, False),
    (quantity, 1, False),
    (more, 2, False),
    (less, 2, False),
    (sum_rule, 3, False),
    (rate, 3, False),
    (still, 1, False),
    (meet, 4, False),
    (drop, 1, False),
    (seen, 3, False),
    (goes, 3, False),
    (unsay, 1, False),
    (ok, 0, False),
    (run, 0, True),
    (None, 0, True),
    (None, 0, False),
    (None, 1, False),
    (None, 0, False),
    (None, 0, False),
    (None, 0, False),
    (None, 0, False),
    (None, 1, False),
    (None, 2, True),
    (None, 3, False),
    (None, 1, False),
    (None, 1, False),
    (None, 0, False),
)
BEGIN = 0


def answers(calls):
    plant = Plant()
    told = []
    at = 0
    while at < len(calls):
        end = end_of_call(calls, at)
        answer = answer_of(plant, calls[at], given_to(calls, at, end))
        told.append(len(answer))
        told.extend(answer)
        at = end
    return told


def end_of_numbers(calls, at):
    return at + 1 + CALLS[calls[at]][1]


def end_of_call(calls, at):
    end = end_of_numbers(calls, at)
    if CALLS[calls[at]][2]:
        return end + 1 + calls[end]
    return end


def given_to(calls, at, end):
    middle = end_of_numbers(calls, at)
    given = calls[at + 1:middle]
    if middle < end:
        given.append(calls[middle + 1:end])
    return given


def answer_of(plant, number, given):
    if number != BEGIN and not plant.begun:
        return [NOT_BEGUN]
    work = CALLS[number][0]
    if work is None:
        raise CallNotBuilt(f"call {number} is not built yet")
    if len(given) == 0:
        return work(plant)
    if len(given) == 1:
        return work(plant, given[0])
    if len(given) == 2:
        return work(plant, given[0], given[1])
    if len(given) == 3:
        return work(plant, given[0], given[1], given[2])
    return work(plant, given[0], given[1], given[2], given[3])
