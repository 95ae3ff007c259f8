"""Sets of properties as whole numbers, and the one order they are listed in."""

MOST_PROPERTIES = 16


def every_property(width):
    """The set of all properties from 0 to width - 1."""
    return (1 << width) - 1


def lies_in(part, whole):
    return part & whole == part


def order_key(subset):
    """A number that is greater for the later of two sets.

    The least property in which two sets differ decides, so property 0 has to weigh most.
    """
    key = 0
    for place in range(MOST_PROPERTIES):
        key = key * 2 + ((subset >> place) & 1)
    return key


def in_order(subsets):
    return sorted(subsets, key=order_key)
