"""Stems, and the base that has a rule for each."""

from closedbook.closure import MOST_LISTED, closure, first_behind
from closedbook.rules import follow


def base_rules(everything, things):
    """The rules of the base in order, or None if closed sets and stems together are too many.

    The closed sets and the stems are just the sets that have, with every premise of the base that
    lies in them and has less, its conclusion. What lies in a set comes ahead of it, so the rules
    found on the way are enough to find the next such set. It is no premise of these itself, as it
    comes behind them: so it is the next set from which nothing more follows by them.
    """
    rules = []
    listed = 0
    subset = 0
    while subset is not None:
        listed = listed + 1
        if listed > MOST_LISTED:
            return None
        whole = closure(everything, things, subset)
        if whole != subset:
            rules.append((subset, whole))
        subset = first_behind(everything, subset, lambda start: follow(rules, start))
    return rules
