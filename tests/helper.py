"""Lays calls out in one list, hands them in, and takes the answers apart again."""

import unittest

from failrules.plant import answers

NAMES = (
    "begin", "quantity", "more", "less", "sum", "rate", "still", "meet", "drop", "seen", "goes", "unsay", "ok", "run",
    "explains", "least", "nth", "fewest", "suspects", "sure", "clashes", "clash", "may", "tells", "spare", "reading",
    "state",
)
MOST_CALLS = 25
LARGEST = 4294967295

BEGIN = ("begin",)
OK = ("ok",)


def laid_out(calls):
    """One list of whole numbers for calls such as ("more", 0, 1) and ("run", [0, 1])."""
    numbers = []
    for call in calls:
        numbers.append(NAMES.index(call[0]))
        for given in call[1:]:
            if isinstance(given, list):
                numbers.append(len(given))
                numbers.extend(given)
            else:
                numbers.append(given)
    return numbers


def taken_apart(told):
    """A list for each answer."""
    apart = []
    at = 0
    while at < len(told):
        apart.append(told[at + 1:at + 1 + told[at]])
        assert len(apart[-1]) == told[at]
        at += 1 + told[at]
    return apart


def ask(calls):
    """The answer of each call."""
    assert len(calls) <= MOST_CALLS
    told = answers(laid_out(calls))
    assert all(type(number) is int for number in told), told
    apart = taken_apart(told)
    assert len(apart) == len(calls), (calls, apart)
    return apart


def ask_last(calls):
    """The answer of the last call."""
    return ask(calls)[-1]


def quantities(*marks):
    """A begin, and quantities with so many marks."""
    return [BEGIN] + [("quantity", m) for m in marks]


# Each is asked by itself behind some calls; together they tell what quantities, rules and readings there are.
PROBES = (
    [("state",), ("reading", 0), ("reading", 1), ("reading", 11), ("least",), ("clashes",), ("run", [])],
    [("quantity", 0)], [("quantity", 1)], [("still", 0)], [("seen", 0, 0, 0)], [("seen", 3, 0, 0)],
    [("drop", 0)], [("drop", 4)], [("unsay", 0)], [("unsay", 11)], [("seen", 0, 1, 0)], [("seen", 0, 2, 0)],
    [("seen", 0, 0, 2)], [("seen", 0, 1, 4)], [OK], [("run", [0])], [("run", [4])],
)


def probed(calls):
    """What there is behind the calls."""
    return [ask(calls + probe)[len(calls):] for probe in PROBES]


class PlantTest(unittest.TestCase):
    def check(self, calls, *expected):
        """The last calls answer so: a number for a list of it alone."""
        wanted = [answer if isinstance(answer, list) else [answer] for answer in expected]
        self.assertEqual(ask(calls)[-len(wanted):], wanted, calls)

    def check_refused(self, calls, refused, number):
        """Behind the calls one more is refused with this number, and nothing changes."""
        self.assertEqual(ask_last(calls + [refused]), [number], refused)
        for probe in PROBES:
            without = ask(calls + probe)
            with_refused = ask(calls + [refused] + probe)
            self.assertEqual(with_refused[:len(calls)], without[:len(calls)])
            self.assertEqual(with_refused[len(calls) + 1:], without[len(calls):], (calls, refused, probe))
