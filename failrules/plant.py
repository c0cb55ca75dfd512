"""The calls on one plant, and what they answer."""

from failrules.pairs import RISING, last_place
from failrules.rules import LESS, MEET, MORE, RATE, STILL, SUM
from failrules.rulesets import clashes_by, how_many_in, in_each, in_some, rules_in, set_of
from failrules.runs import Case, first_run, has_run, least_sets, moments_of, states_by_moment
from failrules.states import place_in

MOST_QUANTITIES = 3
MOST_MARKS = 3
MOST_PLACES = 15
MOST_RULES = 5
MOST_READINGS = 12
LAST_MOMENT = 3

NO_SUCH = -2
NOT_BEGUN = -11
NOT_RIGHT = -22
TOO_MANY = -28
NONE_THERE = -33


class Plant:
    def __init__(self):
        self.begun = False
        self.marks = []
        self.rules = []
        self.readings = []


def begin(plant):
    plant.begun = True
    plant.marks = []
    plant.rules = []
    plant.readings = []
    return [0]


def quantity(plant, m):
    if m > MOST_MARKS:
        return [NOT_RIGHT]
    if len(plant.marks) == MOST_QUANTITIES or places_multiplied(plant.marks + [m]) > MOST_PLACES:
        return [TOO_MANY]
    plant.marks.append(m)
    return [len(plant.marks) - 1]


def places_multiplied(marks):
    product = 1
    for count in marks:
        product = product * (last_place(count) + 1)
    return product


def has_quantity(plant, i):
    return i < len(plant.marks)


def has_mark(plant, i, j):
    return has_quantity(plant, i) and j < plant.marks[i]


def has_place(plant, i, p):
    return has_quantity(plant, i) and p <= last_place(plant.marks[i])


def more(plant, a, b):
    return add_rule(plant, (MORE, a, b), [a, b], a != b)


def less(plant, a, b):
    return add_rule(plant, (LESS, a, b), [a, b], a != b)


def sum_rule(plant, a, b, c):
    return add_rule(plant, (SUM, a, b, c), [a, b, c], a != b and a != c and b != c)


def rate(plant, a, j, b):
    return add_rule(plant, (RATE, a, j, b), [a, b], a != b and has_mark(plant, a, j))


def still(plant, a):
    return add_rule(plant, (STILL, a), [a], True)


def meet(plant, a, j, b, k):
    right = a != b and has_mark(plant, a, j) and has_mark(plant, b, k)
    return add_rule(plant, (MEET, a, j, b, k), [a, b], right)


# Whether the rest is right is found out ahead, but it counts only if the quantities are there: -2 comes first.
def add_rule(plant, rule, quantities, right):
    if not all([has_quantity(plant, i) for i in quantities]):
        return [NO_SUCH]
    if not right:
        return [NOT_RIGHT]
    if len(plant.rules) == MOST_RULES:
        return [TOO_MANY]
    plant.rules.append(rule)
    return [len(plant.rules) - 1]


def drop(plant, r):
    if r >= len(plant.rules):
        return [NO_SUCH]
    plant.rules.pop(r)
    return [len(plant.rules)]


def seen(plant, t, i, p):
    return add_reading(plant, (t, i, 0, p), has_place(plant, i, p))


def goes(plant, t, i, d):
    return add_reading(plant, (t, i, 1, d), d <= RISING)


def add_reading(plant, reading, right):
    refusal = refusal_of(plant, reading, right)
    if refusal:
        return refusal
    if len(plant.readings) == MOST_READINGS:
        return [TOO_MANY]
    plant.readings.append(reading)
    return [len(plant.readings) - 1]


# An empty list if nothing is to be refused, however many readings there are.
def refusal_of(plant, reading, right):
    if not has_quantity(plant, reading[1]):
        return [NO_SUCH]
    if reading[0] > LAST_MOMENT or not right:
        return [NOT_RIGHT]
    return []


def has_reading(plant, k):
    return k < len(plant.readings)


def unsay(plant, k):
    if not has_reading(plant, k):
        return [NO_SUCH]
    plant.readings.pop(k)
    return [len(plant.readings)]


def case_of(plant):
    return Case(plant.marks, plant.rules, plant.readings)


def yes_or_no(truth):
    return [1 if truth else 0]


def counted(numbers):
    return [len(numbers)] + numbers


def is_rule_list(plant, listed):
    return len(set(listed)) == len(listed) and all([r < len(plant.rules) for r in listed])


def ok(plant):
    return yes_or_no(has_run(case_of(plant), 0))


def run(plant, listed):
    if not is_rule_list(plant, listed):
        return [NOT_RIGHT]
    states = first_run(case_of(plant), set_of(listed))
    if not states:
        return [NONE_THERE]
    answer = [len(states)]
    for state in states:
        answer.extend(state)
    return answer


def explains(plant, listed):
    if not is_rule_list(plant, listed):
        return [NOT_RIGHT]
    return yes_or_no(has_run(case_of(plant), set_of(listed)))


def least(plant):
    return counted(least_sets(case_of(plant)))


def nth(plant, k):
    return rules_of_one(least_sets(case_of(plant)), k)


def rules_of_one(rulesets, k):
    if k >= len(rulesets):
        return [NONE_THERE]
    return counted(rules_in(rulesets[k]))


# The sets are rising, and of several with as few rules min takes the first: the one with the lesser number.
def fewest(plant):
    rulesets = least_sets(case_of(plant))
    if not rulesets:
        return [NONE_THERE]
    return counted(rules_in(min(rulesets, key=how_many_in)))


def suspects(plant):
    return counted(rules_in(in_some(least_sets(case_of(plant)))))


def sure(plant):
    rulesets = least_sets(case_of(plant))
    if not rulesets:
        return [NONE_THERE]
    return counted(rules_in(in_each(rulesets)))


def clashes_of(plant):
    return clashes_by(least_sets(case_of(plant)), len(plant.rules))


def clashes(plant):
    return counted(clashes_of(plant))


def clash(plant, k):
    return rules_of_one(clashes_of(plant), k)


def may(plant, t, i, listed):
    if not has_quantity(plant, i):
        return [NO_SUCH]
    if t >= moments_of(plant.readings) or not is_rule_list(plant, listed):
        return [NOT_RIGHT]
    states = states_by_moment(case_of(plant), set_of(listed))[t]
    if not states:
        return [NONE_THERE]
    return counted(sorted(set([place_in(state, i) for state in states])))


def least_sets_if(plant, readings):
    return least_sets(Case(plant.marks, plant.rules, readings))


def tells(plant, t, i, p):
    reading = (t, i, 0, p)
    refusal = refusal_of(plant, reading, has_place(plant, i, p))
    if refusal:
        return refusal
    return counted(least_sets_if(plant, plant.readings + [reading]))


def spare(plant, k):
    if not has_reading(plant, k):
        return [NO_SUCH]
    others = plant.readings[:k] + plant.readings[k + 1:]
    return yes_or_no(least_sets_if(plant, others) == least_sets_if(plant, plant.readings))


def tell_reading(plant, k):
    if not has_reading(plant, k):
        return [NO_SUCH]
    return list(plant.readings[k])


def tell_state(plant):
    return [len(plant.marks), len(plant.rules), len(plant.readings), moments_of(plant.readings)] + plant.marks


# By the number of the call: what carries it out, how many whole numbers it is given, and whether a list stands behind
# these.
CALLS = (
    (begin, 0, False),
    (quantity, 1, False),
    (more, 2, False),
    (less, 2, False),
    (sum_rule, 3, False),
    (rate, 3, False),
    (still, 1, False),
    (meet, 4, False),
    (drop, 1, False),
    (seen, 3, False),
    (goes, 3, False),
    (unsay, 1, False),
    (ok, 0, False),
    (run, 0, True),
    (explains, 0, True),
    (least, 0, False),
    (nth, 1, False),
    (fewest, 0, False),
    (suspects, 0, False),
    (sure, 0, False),
    (clashes, 0, False),
    (clash, 1, False),
    (may, 2, True),
    (tells, 3, False),
    (spare, 1, False),
    (tell_reading, 1, False),
    (tell_state, 0, False),
)
BEGIN = 0


def answers(calls):
    plant = Plant()
    told = []
    at = 0
    while at < len(calls):
        end = end_of_call(calls, at)
        answer = answer_of(plant, calls[at], given_to(calls, at, end))
        told.append(len(answer))
        told.extend(answer)
        at = end
    return told


def end_of_numbers(calls, at):
    return at + 1 + CALLS[calls[at]][1]


def end_of_call(calls, at):
    end = end_of_numbers(calls, at)
    if CALLS[calls[at]][2]:
        return end + 1 + calls[end]
    return end


def given_to(calls, at, end):
    middle = end_of_numbers(calls, at)
    given = calls[at + 1:middle]
    if middle < end:
        given.append(calls[middle + 1:end])
    return given


def answer_of(plant, number, given):
    if number != BEGIN and not plant.begun:
        return [NOT_BEGUN]
    work = CALLS[number][0]
    if len(given) == 0:
        return work(plant)
    if len(given) == 1:
        return work(plant, given[0])
    if len(given) == 2:
        return work(plant, given[0], given[1])
    if len(given) == 3:
        return work(plant, given[0], given[1], given[2])
    return work(plant, given[0], given[1], given[2], given[3])
