"""Sets of rules: a number to which rule r adds 2 to the power of r.

So a part of a set is always a lesser number than the set itself.
"""


def set_of(rules):
    total = 0
    for r in rules:
        total = total | 1 << r
    return total


def rules_in(ruleset):
    return [r for r in range(ruleset.bit_length()) if ruleset >> r & 1 == 1]


def how_many_in(ruleset):
    return len(rules_in(ruleset))


def all_of(count):
    return (1 << count) - 1


def is_within(part, whole):
    return part | whole == whole


def has_one_within(ruleset, others):
    return any([is_within(other, ruleset) for other in others])


def in_some(rulesets):
    total = 0
    for ruleset in rulesets:
        total = total | ruleset
    return total


def in_each(rulesets):
    total = in_some(rulesets)
    for ruleset in rulesets:
        total = total & ruleset
    return total


# To give up a rule more never takes a run away, so a set explains just if a least set lies within it: the least
# sets tell all that clashes depend on.
def clashes_by(least_ones, count):
    return [ruleset for ruleset in range(all_of(count) + 1) if is_clash(ruleset, least_ones, count)]


def is_clash(ruleset, least_ones, count):
    others = all_of(count) - ruleset
    if has_one_within(others, least_ones):
        return False
    return all([has_one_within(others | 1 << r, least_ones) for r in rules_in(ruleset)])
