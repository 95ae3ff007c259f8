"""Books with a known number of closed sets."""


def all_but_one(width):
    """Things that lack one property each: every set is closed."""
    return [(1 << width) - 1 - (1 << i) for i in range(width)]


def side_by_side(parts):
    """Books (width, things) put side by side: their numbers of closed sets are multiplied."""
    width = sum(part[0] for part in parts)
    everything = (1 << width) - 1
    things = []
    start = 0
    for part_width, part_things in parts:
        own = ((1 << part_width) - 1) << start
        things += [(everything ^ own) | (thing << start) for thing in part_things]
        start += part_width
    return width, things


def thousand():
    """12 properties, 12 things, 5 * 5 * 5 * 2 * 2 * 2 closed sets."""
    five = (3, [1, 2, 4])
    two = (1, [0])
    return side_by_side([five, five, five, two, two, two])


def thousand_and_one():
    """One more property that no thing has, and a thing that has all the others."""
    width, things = thousand()
    return width + 1, things + [(1 << width) - 1]


def thousand_with_stems():
    """12 properties, 13 things, 990 closed sets and 10 stems."""
    five = (3, [1, 2, 4])
    nine = (4, [4, 9, 10, 3])
    eleven = (4, [12, 1, 10, 7, 11])
    two = (1, [0])
    return side_by_side([five, nine, eleven, two])


def thousand_and_one_with_stems():
    """One more property, which all things have: the set of no properties is one more stem."""
    width, things = thousand_with_stems()
    return width + 1, [thing | 1 << width for thing in things]


def single_ones(width):
    """Things with one property each: the stems are the sets of two properties."""
    return [1 << i for i in range(width)]


def sixty_four_stems():
    """12 properties; of the 66 sets of two properties two are closed."""
    return 12, single_ones(12) + [1 + 2, 4 + 8]


def sixty_six_stems():
    return 12, single_ones(12)
