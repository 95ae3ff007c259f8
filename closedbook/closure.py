"""What the things say of sets: closures, closed sets and their neighbours.

In every function, everything is the set of all properties and things the list of the things' sets.
"""

from closedbook.order import in_order, lies_in

MOST_LISTED = 1000


def things_having(things, subset):
    return [thing for thing in things if lies_in(subset, thing)]


def closure(everything, things, subset):
    common = everything
    for thing in things_having(things, subset):
        common = common & thing
    return common


def rule_holds(everything, things, premise, conclusion):
    return lies_in(conclusion, closure(everything, things, premise))


def first_behind(everything, subset, close):
    """The first set behind subset that close leaves as it is, or None.

    Of those behind it the ones come first that agree with it the furthest, so the greatest
    property that can be the first difference is looked for.
    """
    for place in range(everything.bit_length() - 1, -1, -1):
        bit = 1 << place
        if subset & bit == 0:
            before = subset & (bit - 1)
            found = close(before | bit)
            if found & (bit - 1) == before:
                return found
    return None


def next_closed(everything, things, subset):
    return first_behind(everything, subset, lambda start: closure(everything, things, start))


def closed_sets(everything, things):
    """All closed sets in order, or None if they are too many.

    The closed sets are the meets of things, the meet of none being everything. One more thing
    never takes a closed set away, so it can be given up as soon as there are too many.
    """
    found = {everything: True}
    for thing in things:
        # The meets with a thing that is closed without it are there already.
        if thing not in found:
            for other in list(found):
                found[other & thing] = True
        if len(found) > MOST_LISTED:
            return None
    return in_order(list(found))


def sets_above(listed, subset):
    """Of the closed sets listed in order, those above the closed set, in order."""
    above = []
    for candidate in listed:
        if candidate != subset and lies_in(subset, candidate):
            # What lies in the candidate came ahead of it, so those that were kept are enough to ask.
            if not any([lies_in(kept, candidate) for kept in above]):
                above.append(candidate)
    return above


def sets_below(listed, subset):
    """Of the closed sets listed in order, those below the closed set, in order."""
    below = []
    for candidate in reversed(listed):
        if candidate != subset and lies_in(candidate, subset):
            # Walked backwards, what the candidate lies in came ahead of it.
            if not any([lies_in(candidate, kept) for kept in below]):
                below.append(candidate)
    return list(reversed(below))


def is_spare(everything, things, number):
    """Without the thing the closed sets are the same just if its own set is still closed."""
    others = things[:number] + things[number + 1:]
    return closure(everything, others, things[number]) == things[number]
