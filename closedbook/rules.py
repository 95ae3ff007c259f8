"""Rules judged by rules. A rule is a tuple of its premise and its conclusion."""

from closedbook.order import lies_in

MOST_RULES = 64


def holds_of(thing, premise, conclusion):
    return lies_in(conclusion, thing) or not lies_in(premise, thing)


def follow(rules, subset):
    """What follows from the set by the rules."""
    before = None
    while before != subset:
        before = subset
        for premise, conclusion in rules:
            # Written out, without a call: the search for the base spends its time here.
            if premise & subset == premise:
                subset = subset | conclusion
    return subset


def rule_follows(rules, premise, conclusion):
    """What follows from the premise is the least thing with the premise of which the rules hold."""
    return lies_in(conclusion, follow(rules, premise))


def is_needless(rules, number):
    others = rules[:number] + rules[number + 1:]
    return rule_follows(others, rules[number][0], rules[number][1])
