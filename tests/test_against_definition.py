"""Every answer of the calls that ask, beside what DOC.md's words give when every set is tried."""

import unittest
from itertools import product

from tests import definition
from tests.calling import ask, ask_of, book_of


def mixed_books():
    """Books of middling size, mixed up by a plain sum so that each run has the same ones."""
    state = 12345
    books = []
    for turn in range(60):
        width = turn % 6 + 1
        things = []
        for place in range(turn % 9 + 1):
            state = (state * 1103515245 + 12345) % 2147483648
            thing = state >> 8
            if turn % 2:
                state = (state * 1103515245 + 12345) % 2147483648
                thing |= state >> 8
            things.append(thing % (1 << width))
        books.append((width, things))
    return books


class AgainstDefinition(unittest.TestCase):
    def check_sets(self, width, things):
        closeds = definition.closed_sets(width, things)
        self.assertEqual(ask(*book_of(width, things), "closeds")[-1], [len(closeds)] + closeds)
        for subset in range(1 << width):
            closure = definition.closure(width, things, subset)
            above = definition.above(closeds, closure)
            below = definition.below(closeds, closure)
            told = ask(*book_of(width, things), ("closed", subset), ("having", subset), ("next", subset),
                       ("over", subset), ("under", subset))[1 + len(things):]
            having = sum(definition.has_all(thing, subset) for thing in things)
            self.assertEqual(told, [[closure], [having], definition.next_closed(closeds, subset),
                                    [len(above)] + above, [len(below)] + below], (width, things, subset))

    def check_things(self, width, things):
        told = ask(*book_of(width, things), *[("spare", n) for n in range(len(things))])[1 + len(things):]
        spare = [[int(definition.is_spare(width, things, n))] for n in range(len(things))]
        self.assertEqual(told, spare, (width, things))

    def check_rules(self, width, things):
        for premise in range(1 << width):
            told = ask_of(width, things, *[("holds", premise, c) for c in range(1 << width)])
            holds = [[int(definition.holds(things, premise, c))] for c in range(1 << width)]
            self.assertEqual(told, holds, (width, things, premise))

    def test_all_small_books(self):
        for width in range(4):
            for count in range(4 if width < 3 else 3):
                for things in product(range(1 << width), repeat=count):
                    self.check_sets(width, list(things))
                    self.check_things(width, list(things))
                    if count:
                        self.check_rules(width, list(things))

    def test_mixed_books(self):
        for width, things in mixed_books():
            self.check_sets(width, things)
            self.check_things(width, things)
            self.check_rules(width, things)

    def test_next_goes_through_all_closed_sets(self):
        for width, things in mixed_books():
            closeds = definition.closed_sets(width, things)
            seen = [definition.closure(width, things, 0)]
            while True:
                told = ask_of(width, things, ("next", seen[-1]))[0]
                if told == [-3]:
                    break
                seen += told
            self.assertEqual(seen, closeds)


if __name__ == "__main__":
    unittest.main()
