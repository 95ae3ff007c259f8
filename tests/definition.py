"""DOC.md's point 1 and 2 word by word, by trying every set: slow, and apart from the program."""

from functools import cmp_to_key


def has_all(whole, part):
    return all(whole >> i & 1 for i in range(32) if part >> i & 1)


def closure(width, things, subset):
    kept = [t for t in things if has_all(t, subset)]
    return sum(1 << i for i in range(width) if all(t >> i & 1 for t in kept))


def compare(one, other):
    """Below 0 if one comes first: the set that has the least difference comes later."""
    for i in range(32):
        if (one >> i & 1) != (other >> i & 1):
            return 1 if one >> i & 1 else -1
    return 0


def in_order(subsets):
    return sorted(subsets, key=cmp_to_key(compare))


def closed_sets(width, things):
    return in_order([s for s in range(1 << width) if closure(width, things, s) == s])


def next_closed(closeds, subset):
    behind = [s for s in closeds if compare(s, subset) > 0]
    return [behind[0]] if behind else [-3]


def above(closeds, subset):
    more = [s for s in closeds if s != subset and has_all(s, subset)]
    return [s for s in more if not any(o != s and has_all(s, o) for o in more)]


def below(closeds, subset):
    less = [s for s in closeds if s != subset and has_all(subset, s)]
    return [s for s in less if not any(o != s and has_all(o, s) for o in less)]


def is_spare(width, things, number):
    others = things[:number] + things[number + 1:]
    return closed_sets(width, others) == closed_sets(width, things)


def holds(things, premise, conclusion):
    return all(has_all(t, conclusion) or not has_all(t, premise) for t in things)
