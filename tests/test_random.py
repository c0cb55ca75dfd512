"""Many lines, drawn by a fixed seed, against the words told once more in oracle.py."""

import functools
import itertools
import random
import unittest

from tests import oracle
from tests.helper import LARGEST, MOST_CALLS, NAMES, ask

LINES = 1000
KINDS = {"more": "qq", "less": "qq", "sum": "qqq", "rate": "qmq", "still": "q", "meet": "qmqm"}
MARKS = ([], [0], [1], [2], [3], [1, 1], [2, 1], [1, 2], [0, 3], [0, 1, 1], [1, 0, 1], [0, 0, 0])
ASKED = NAMES[NAMES.index("ok"):]


def number(draw, most):
    """Mostly up to most, now and then just above it or far above it."""
    chance = draw.random()
    if chance < 0.93:
        return draw.randint(0, max(most, 0))
    return draw.choice([most + 1, most + 2, 256, LARGEST])


def rule_list(draw, count):
    given_up = draw.sample(range(count), draw.randint(0, min(count, 4)))
    if draw.random() < 0.1:
        given_up.append(draw.choice(given_up + [count, 5, LARGEST]))
    return given_up


def asking_call(draw, quantities, rules, readings, moments):
    """One that changes nothing, where there are about so many of these."""
    name = draw.choice(ASKED)
    if name in ("run", "explains"):
        return (name, rule_list(draw, rules))
    if name in ("nth", "clash"):
        return (name, number(draw, draw.choice([0, 0, 1, 3])))
    if name in ("spare", "reading"):
        return (name, number(draw, readings - 1))
    if name == "tells":
        return (name, number(draw, 3), number(draw, quantities - 1), number(draw, 3))
    if name == "may":
        return (name, number(draw, moments - 1), number(draw, quantities - 1), rule_list(draw, rules))
    return (name,)


# Lines of any calls: much of them is refused, or can't be.


def any_rule(draw, count):
    kind = draw.choice(list(KINDS))
    quantities = draw.sample(range(max(count, 3)), 3) if draw.random() < 0.9 else [0, 0, 0]
    given = []
    for letter in KINDS[kind]:
        given.append(min(quantities.pop(), number(draw, max(count - 1, 0))) if letter == "q" else number(draw, 1))
    return (kind, *given)


def any_reading(draw, count):
    t, i = number(draw, 3), number(draw, max(count - 1, 0))
    if draw.random() < 0.5:
        return ("seen", t, i, number(draw, 3))
    return ("goes", t, i, number(draw, 2))


def any_other_call(draw, count):
    chance = draw.random()
    if chance < 0.7:
        return asking_call(draw, count, 5, draw.choice([3, 12]), 4)
    if chance < 0.8:
        return ("drop", number(draw, 3))
    if chance < 0.9:
        return ("unsay", number(draw, 4))
    if chance < 0.95:
        return ("quantity", number(draw, 3))
    return ("begin",)


def line_of_any_calls(draw):
    marks = draw.choice(MARKS)
    line = [("begin",)] if draw.random() < 0.97 else []
    line += [("quantity", m) for m in marks]
    # Some lines are full of rules, some of readings, so that the limits are met.
    rules, readings = draw.choice([(3, 4), (7, 3), (1, 13), (2, 8), (4, 6)])
    line += [any_rule(draw, len(marks)) for n in range(rules)]
    line += [any_reading(draw, len(marks)) for n in range(readings)]
    while len(line) < MOST_CALLS:
        chance = draw.random()
        if chance < 0.15:
            line.append(any_rule(draw, len(marks)))
        elif chance < 0.3:
            line.append(any_reading(draw, len(marks)))
        else:
            line.append(any_other_call(draw, len(marks)))
    return line


# Lines with rules that are right, and with readings that are mostly of one sequence of states, which breaks some of the
# rules: so there are least sets and clashes of many kinds.


@functools.lru_cache(maxsize=None)
def right_rules(kind, marks):
    begun = [("begin",)] + [("quantity", m) for m in marks]
    rules = [(kind, *given) for given in itertools.product(range(3), repeat=len(KINDS[kind]))]
    return [rule for rule in rules if oracle.ought(begun + [rule])[-1] == [0]]


def right_rule(draw, marks):
    return draw.choice(draw.choice([rules for rules in [right_rules(kind, tuple(marks)) for kind in KINDS] if rules]))


def walk(draw, marks, count):
    """A place and a direction of a quantity for so many moments, each of which follows the one before."""
    pairs = [(p, d) for p in range(2 * marks + 1) for d in range(3)]
    states = [draw.choice(pairs)]
    while len(states) < count:
        states.append(draw.choice([pair for pair in pairs if oracle.follows(marks, states[-1], pair)]))
    return states


def reading_of_walks(draw, walks):
    i = draw.randrange(len(walks))
    t = draw.randrange(len(walks[i]))
    what = draw.randrange(2)
    value = walks[i][t][what] if draw.random() < 0.97 else 0
    return (("seen", "goes")[what], t, i, value)


def line_of_right_calls(draw, choices=([1, 1], [2, 1], [1, 0, 1], [0, 0, 0], [0, 1, 1], [3], [0, 2], [1, 0, 0])):
    marks = draw.choice(choices)
    rules = [right_rule(draw, marks) for n in range(draw.choice([2, 3, 4, 5, 5, 5]))]
    moments = draw.choice([1, 2, 3, 4])
    walks = [walk(draw, m, moments) for m in marks]
    readings = [reading_of_walks(draw, walks) for n in range(draw.choice([1, 3, 4, 5, 6, 12]))]
    line = [("begin",)] + [("quantity", m) for m in marks] + rules + readings
    while len(line) < MOST_CALLS:
        chance = draw.random()
        if chance < 0.9:
            line.append(asking_call(draw, len(marks), len(rules), len(readings), moments))
        else:
            line.append(draw.choice([right_rule(draw, marks), reading_of_walks(draw, walks), ("drop", 0), ("unsay", 0)]))
    return line


class Drawn(unittest.TestCase):
    def check_lines(self, lines):
        """Each answers as it ought to; what was answered is given back by the names of the calls."""
        told = {name: [] for name in NAMES}
        for line in lines:
            self.assertEqual(len(line), MOST_CALLS)
            got = ask(line)
            self.assertEqual(got, oracle.ought(line), line)
            for call, answer in zip(line, got):
                told[call[0]].append(answer)
        return told

    def test_lines_of_any_calls(self):
        draw = random.Random(20261116)
        told = self.check_lines([line_of_any_calls(draw) for n in range(LINES)])
        refused = {name: {min(answer[0], 0) for answer in some} for name, some in told.items()}
        # The lines are worth little if they don't meet the refusals.
        self.assertEqual(set().union(*[refused[kind] for kind in KINDS]), {0, -2, -11, -22, -28})
        self.assertEqual(refused["seen"], {0, -2, -11, -22, -28})
        self.assertEqual(refused["run"], {0, -11, -22, -33})
        self.assertEqual(refused["explains"], {0, -11, -22})
        self.assertEqual(refused["may"], {0, -2, -11, -22, -33})
        self.assertEqual(refused["tells"], {0, -2, -11, -22})
        for name in ("nth", "fewest", "sure", "clash"):
            self.assertEqual(refused[name], {0, -11, -33}, name)
        for name in ("spare", "reading"):
            self.assertEqual(refused[name], {0, -2, -11}, name)
        for name in ("ok", "least", "suspects", "clashes", "state"):
            self.assertEqual(refused[name], {0, -11}, name)

    def test_lines_of_right_calls(self):
        draw = random.Random(11162026)
        told = self.check_lines([line_of_right_calls(draw) for n in range(LINES // 2)])
        # Nor are they worth much if the answers are all alike.
        for name, least in (("least", 20), ("tells", 20), ("clashes", 20), ("suspects", 10), ("sure", 10), ("may", 10)):
            self.assertGreaterEqual(len(set(map(tuple, told[name]))), least, name)
        for name in ("ok", "explains", "spare"):
            self.assertLessEqual({(0,), (1,)}, set(map(tuple, told[name])), name)

    def test_lines_with_as_many_places_as_can_be(self):
        draw = random.Random(15)
        self.check_lines([line_of_right_calls(draw, ([1, 2, 0], [0, 2, 1], [2, 1])) for n in range(25)])

    def test_what_is_refused_changes_nothing(self):
        draw = random.Random(61116202)
        for n in range(LINES // 3):
            line = line_of_any_calls(draw)
            got = ask(line)
            kept = [(call, answer) for call, answer in zip(line, got) if answer[0] >= 0]
            if kept:
                self.assertEqual(ask([call for call, answer in kept]), [answer for call, answer in kept], line)

    def test_what_only_asks_changes_nothing(self):
        draw = random.Random(16112026)
        for n in range(LINES // 3):
            line = line_of_any_calls(draw) if n % 2 else line_of_right_calls(draw)
            got = ask(line)
            changes = [(call, answer) for call, answer in zip(line, got) if call[0] not in ASKED]
            self.assertEqual(ask([call for call, answer in changes]), [answer for call, answer in changes], line)
            # What is asked answers the same with nothing else asked ahead of it.
            last = max(at for at, call in enumerate(line) if call[0] in ASKED or at == 0)
            ahead = [call for call in line[:last] if call[0] not in ASKED]
            self.assertEqual(ask(ahead + [line[last]])[-1], got[last], line)
