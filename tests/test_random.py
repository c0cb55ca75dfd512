"""Many lines, drawn by a fixed seed, against the words told once more in oracle.py."""

import random
import unittest

from tests.helper import LARGEST, MOST_CALLS, ask
from tests.oracle import ought

LINES = 1500
KINDS = {"more": "qq", "less": "qq", "sum": "qqq", "rate": "qmq", "still": "q", "meet": "qmqm"}


def number(draw, most):
    """Mostly up to most, now and then just above it or far above it."""
    chance = draw.random()
    if chance < 0.93:
        return draw.randint(0, most)
    return draw.choice([most + 1, most + 2, 256, LARGEST])


def rule_call(draw, count):
    kind = draw.choice(list(KINDS))
    quantities = draw.sample(range(max(count, 3)), 3) if draw.random() < 0.9 else [0, 0, 0]
    given = []
    for letter in KINDS[kind]:
        given.append(min(quantities.pop(), number(draw, max(count - 1, 0))) if letter == "q" else number(draw, 1))
    return (kind, *given)


def reading_call(draw, count):
    t, i = number(draw, 3), number(draw, max(count - 1, 0))
    if draw.random() < 0.5:
        return ("seen", t, i, number(draw, 3))
    return ("goes", t, i, number(draw, 2))


def rule_list(draw):
    given_up = draw.sample(range(5), draw.randint(0, 3))
    if draw.random() < 0.1:
        given_up.append(draw.choice(given_up + [5, LARGEST]))
    return given_up


def other_call(draw):
    chance = draw.random()
    if chance < 0.35:
        return ("ok",)
    if chance < 0.7:
        return ("run", rule_list(draw))
    if chance < 0.8:
        return ("drop", number(draw, 3))
    if chance < 0.9:
        return ("unsay", number(draw, 4))
    if chance < 0.95:
        return ("quantity", number(draw, 3))
    return ("begin",)


def drawn_line(draw):
    marks = draw.choice([[], [0], [1], [2], [3], [1, 1], [2, 1], [1, 2], [0, 3], [0, 1, 1], [1, 0, 1], [0, 0, 0]])
    line = [("begin",)] if draw.random() < 0.97 else []
    line += [("quantity", m) for m in marks]
    # Some lines are full of rules, some of readings, so that the limits are met.
    rules, readings = draw.choice([(3, 4), (7, 3), (1, 13), (2, 8), (4, 6)])
    line += [rule_call(draw, len(marks)) for n in range(rules)]
    line += [reading_call(draw, len(marks)) for n in range(readings)]
    while len(line) < MOST_CALLS:
        chance = draw.random()
        if chance < 0.15:
            line.append(rule_call(draw, len(marks)))
        elif chance < 0.3:
            line.append(reading_call(draw, len(marks)))
        else:
            line.append(other_call(draw))
    return line


class Drawn(unittest.TestCase):
    def test_lines_answer_as_they_ought_to(self):
        draw = random.Random(20261116)
        told = {}
        for n in range(LINES):
            line = drawn_line(draw)
            got = ask(line)
            self.assertEqual(got, ought(line), line)
            for call, answer in zip(line, got):
                told.setdefault(call[0], set()).add(min(answer[0], 0))
        # The lines are worth little if they don't meet the refusals.
        self.assertEqual(told["run"], {0, -11, -22, -33})
        self.assertEqual(set().union(*[told[kind] for kind in KINDS]), {0, -2, -11, -22, -28})
        self.assertEqual(told["seen"], {0, -2, -11, -22, -28})

    def test_what_is_refused_changes_nothing(self):
        draw = random.Random(61116202)
        for n in range(LINES // 3):
            line = drawn_line(draw)
            got = ask(line)
            kept = [(call, answer) for call, answer in zip(line, got) if answer[0] >= 0]
            if kept:
                self.assertEqual(ask([call for call, answer in kept]), [answer for call, answer in kept], line)
