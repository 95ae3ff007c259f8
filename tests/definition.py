"""DOC.md's point 1 and 2 word by word, by trying every set: slow, and apart from the program."""

from functools import cmp_to_key


def has_all(whole, part):
    return all(whole >> i & 1 for i in range(32) if part >> i & 1)


def closure(width, things, subset):
    kept = [t for t in things if has_all(t, subset)]
    return sum(1 << i for i in range(width) if all(t >> i & 1 for t in kept))


def compare(one, other):
    """Below 0 if one comes first: the set that has the least difference comes later."""
    for i in range(32):
        if (one >> i & 1) != (other >> i & 1):
            return 1 if one >> i & 1 else -1
    return 0


def in_order(subsets):
    return sorted(subsets, key=cmp_to_key(compare))


def closed_sets(width, things):
    return in_order([s for s in range(1 << width) if closure(width, things, s) == s])


def next_closed(closeds, subset):
    behind = [s for s in closeds if compare(s, subset) > 0]
    return [behind[0]] if behind else [-3]


def above(closeds, subset):
    more = [s for s in closeds if s != subset and has_all(s, subset)]
    return [s for s in more if not any(o != s and has_all(s, o) for o in more)]


def below(closeds, subset):
    less = [s for s in closeds if s != subset and has_all(subset, s)]
    return [s for s in less if not any(o != s and has_all(o, s) for o in less)]


def is_spare(width, things, number):
    others = things[:number] + things[number + 1:]
    return closed_sets(width, others) == closed_sets(width, things)


def holds(things, premise, conclusion):
    return all(has_all(t, conclusion) or not has_all(t, premise) for t in things)


def stems(width, things):
    found = []
    # What lies in a set and has less is a smaller number, so it is judged already.
    for subset in range(1 << width):
        within = [s for s in found if has_all(subset, s) and s != subset]
        if closure(width, things, subset) != subset:
            if all(has_all(subset, closure(width, things, s)) for s in within):
                found.append(subset)
    return in_order(found)


def base(width, things):
    return [(stem, closure(width, things, stem)) for stem in stems(width, things)]


def too_many(width, things):
    return len(closed_sets(width, things)) + len(stems(width, things)) > 1000


def base_by_striking(width, things):
    """The base once more, quick enough for 16 properties.

    In order, each set that is left is a stem, and strikes those that have it and not its closure.
    """
    def close(subset):
        common = (1 << width) - 1
        for thing in things:
            if thing & subset == subset:
                common &= thing
        return common

    left = sorted(range(1 << width), key=lambda s: format(s, "016b")[::-1])
    left = [s for s in left if close(s) != s]
    found = []
    while left:
        stem = left[0]
        whole = close(stem)
        found.append((stem, whole))
        left = [s for s in left[1:] if s & stem != stem or s & whole == whole]
    return found


def follow(width, rules, subset):
    """Of the sets that have all of it, and with every rule's premise its conclusion, the least."""
    such = [s for s in range(1 << width) if has_all(s, subset)
            and all(has_all(s, c) for p, c in rules if has_all(s, p))]
    least = [s for s in such if all(has_all(o, s) for o in such)]
    if len(least) != 1:
        raise AssertionError("there is always a least one")
    return least[0]


def follows(width, rules, premise, conclusion):
    things = [t for t in range(1 << width) if all(holds([t], p, c) for p, c in rules)]
    return all(has_all(t, conclusion) for t in things if has_all(t, premise))


def needless(width, rules, number):
    others = rules[:number] + rules[number + 1:]
    return follows(width, others, *rules[number])


def question(width, things, rules):
    """Word by word, not the base's next rule; None if there's no such set."""
    for subset in in_order(range(1 << width)):
        whole = closure(width, things, subset)
        if whole == subset or subset in [p for p, c in rules]:
            continue
        if all(has_all(subset, c) for p, c in rules if has_all(subset, p) and p != subset):
            return subset, whole
    return None


def breaks(width, rules, rule, thing):
    if thing >= 1 << width or not has_all(thing, rule[0]) or has_all(thing, rule[1]):
        return False
    return all(holds([thing], p, c) for p, c in rules)
