import unittest
from itertools import combinations, product
from random import Random

from tests import definition
from tests.calling import ask, ask_of, book_of, look_at, pairs, say_all
from tests.examples import (
    all_but_one, single_ones, sixty_four_stems, sixty_six_stems, thousand, thousand_and_one_with_stems,
    thousand_with_stems,
)


def flat(base):
    return [len(base)] + [subset for rule in base for subset in rule]


class Base(unittest.TestCase):
    def test_premise_and_conclusion_of_each_in_order(self):
        # The closed sets are 0, 4, 2, 1 and 7; two properties bring all.
        self.assertEqual(ask_of(3, [1, 2, 4], "base"), [[3, 6, 7, 5, 7, 3, 7]])

    def test_a_stem_has_the_closures_of_the_stems_within(self):
        # {1} brings {0}; so {1, 2}, which isn't closed either but lacks that, is no stem, and {0, 2} is one.
        self.assertEqual(ask_of(3, [3, 4, 1, 0], "base"), [[2, 2, 3, 5, 7]])

    def test_a_stem_may_have_stems_within(self):
        # {2} and {1} bring {0}; {0, 1, 2} has both and their closures, and isn't closed.
        self.assertEqual(ask_of(4, [5, 3, 8], "base"), [[4, 4, 5, 2, 3, 9, 15, 7, 15]])

    def test_no_properties_as_a_stem(self):
        self.assertEqual(ask_of(2, [3], "base"), [[1, 0, 3]])
        self.assertEqual(ask_of(2, [1], "base"), [[1, 0, 1]])
        self.assertEqual(ask_of(3, [3, 5], "base"), [[1, 0, 1]])

    def test_without_things(self):
        self.assertEqual(ask("base", ("new", 3), "base", ("new", 16), "base")[::2], [[0], [1, 0, 7], [1, 0, 65535]])

    def test_without_properties(self):
        self.assertEqual(ask_of(0, [0, 0], "base"), [[0]])

    def test_all_sets_closed(self):
        self.assertEqual(ask_of(9, all_but_one(9), "base"), [[0]])

    def test_whatever_rules_are_kept(self):
        calls = ["base", ("say", 1, 2), "base", ("say", 6, 7), "base", ("forget", 0), "base"]
        told = ask_of(3, [1, 2, 4], *calls)
        self.assertEqual(told[::2], [told[0]] * 4)

    def test_the_book_as_it_is_now(self):
        told = ask(("new", 2), "base", ("thing", 1), "base", ("thing", 2), "base", ("thing", 4), "base",
                   ("read", "xx\n"), "base", ("new", 1), "base")
        self.assertEqual(told[1::2], [[1, 0, 3], [1, 0, 1], [0], [0], [1, 0, 3], [1, 0, 1]])
        self.assertEqual(told[6], [-1])

    def test_more_rules_than_may_be_kept(self):
        width, things = sixty_six_stems()
        self.assertEqual(ask_of(width, things, "base")[0], flat(definition.base_by_striking(width, things)))
        self.assertEqual(ask_of(16, single_ones(16), "base")[0][0], 120)

    def test_sixty_four_things(self):
        rng = Random(3)
        things = [rng.randrange(65536) & rng.randrange(65536) for n in range(64)]
        told = ask_of(16, things, "base")[0]
        self.assertEqual(told, flat(definition.base_by_striking(16, things)))

    def test_the_same_things_in_another_order_and_twice(self):
        things = [3, 6, 12, 9, 1]
        self.assertEqual(ask_of(4, things, "base"), ask_of(4, things[::-1] + things, "base"))


class TooMany(unittest.TestCase):
    def test_a_thousand_together(self):
        width, things = thousand_with_stems()
        base = definition.base(width, things)
        self.assertEqual(len(base) + len(definition.closed_sets(width, things)), 1000)
        self.assertEqual(ask_of(width, things, "base"), [flat(base)])
        self.assertEqual(ask_of(width, things[::-1], "base"), [flat(base)])

    def test_one_more(self):
        width, things = thousand_and_one_with_stems()
        base = definition.base_by_striking(width, things)
        self.assertEqual(base[0], (0, 1 << width - 1))
        self.assertEqual(len(base) + len(definition.closed_sets(width, things)), 1001)
        told = ask_of(width, things, "base", "closeds")
        self.assertEqual((told[0], told[1][0]), ([-4], 990))

    def test_a_thousand_closed_sets_are_too_many_with_their_stems(self):
        width, things = thousand()
        told = ask_of(width, things, "closeds", "base")
        self.assertEqual((told[0][0], told[1]), (1000, [-4]))

    def test_all_sets(self):
        self.assertEqual(ask_of(10, all_but_one(10), "base"), [[-4]])
        self.assertEqual(ask_of(16, all_but_one(16) * 4, "base"), [[-4]])

    def test_changes_nothing(self):
        width, things = thousand_and_one_with_stems()
        look = look_at(1)
        told = ask_of(width, things, ("say", 1, 2), *look, "base", *look)[1:]
        self.assertEqual(told[len(look)], [-4])
        self.assertEqual(told[len(look) + 1:], told[:len(look)])

    def test_the_thing_that_makes_them_too_many(self):
        told = ask_of(10, all_but_one(10)[:9], "base", ("thing", 511), "base", ("new", 2), "base")
        self.assertEqual(told, [[1, 0, 512], [9], [-4], [0], [1, 0, 3]])


class AgainstDefinition(unittest.TestCase):
    def test_all_small_books(self):
        for width in range(4):
            for count in range(5 if width < 3 else 4):
                for things in product(range(1 << width), repeat=count):
                    things = list(things)
                    told = ask(*book_of(width, things), "base")[-1]
                    self.assertEqual(told, flat(definition.base(width, things)), (width, things))

    def test_mixed_books(self):
        rng = Random(4)
        for turn in range(150):
            width = turn % 4 + 4
            things = [rng.randrange(1 << width) for n in range(rng.randrange(1, 14))]
            if turn % 3 == 0:
                things = [thing | rng.randrange(1 << width) for thing in things]
            base = definition.base(width, things)
            self.assertEqual(definition.base_by_striking(width, things), base)
            self.assertEqual(ask_of(width, things, "base"), [flat(base)], (width, things))

    def test_larger_books(self):
        rng = Random(5)
        for width, count in ((10, 20), (11, 40), (12, 12), (13, 25), (14, 64), (16, 10), (16, 25), (16, 40)):
            things = [rng.randrange(1 << width) & rng.randrange(1 << width) for n in range(count)]
            base = definition.base_by_striking(width, things)
            self.assertEqual(ask_of(width, things, "base"), [flat(base)], (width, things))


class SecondPromise(unittest.TestCase):
    """The base's rules hold, all that holds follows from them, none is needless, none shorter will do."""

    def check(self, width, things):
        base = pairs(ask_of(width, things, "base")[0])
        told = ask_of(width, things, *[("holds", p, c) for p, c in base])
        self.assertEqual(told, [[1]] * len(base))
        told = ask_of(width, things, *say_all(base), *[("needless", n) for n in range(len(base))])
        self.assertEqual(told[len(base):], [[0]] * len(base), (width, things))
        sets = range(1 << width)
        told = ask_of(width, things, *say_all(base), *[("follow", s) for s in sets], *[("closed", s) for s in sets])
        self.assertEqual(told[len(base):len(base) + len(sets)], told[len(base) + len(sets):], (width, things))
        return base

    def test_small_books(self):
        for count in range(1, 4):
            for things in combinations(range(8), count):
                self.check(3, list(things))

    def test_mixed_books(self):
        rng = Random(6)
        for turn in range(60):
            width = turn % 2 + 4
            self.check(width, [rng.randrange(1 << width) for n in range(rng.randrange(1, 9))])

    def test_just_what_holds_follows(self):
        rng = Random(9)
        for turn in range(12):
            things = [rng.randrange(16) for n in range(rng.randrange(1, 7))]
            base = pairs(ask_of(4, things, "base")[0])
            for premise in range(16):
                told = ask_of(4, things, *say_all(base), *[("holds", premise, c) for c in range(16)],
                              *[("follows", premise, c) for c in range(16)])[len(base):]
                self.assertEqual(told[16:], told[:16], (things, premise))

    def test_a_base_of_sixty_four_rules(self):
        width, things = sixty_four_stems()
        base = pairs(ask_of(width, things, "base")[0])
        self.assertEqual(len(base), 64)
        told = ask_of(width, things, *say_all(base), *[("needless", n) for n in range(0, 64, 3)])[64:]
        self.assertEqual(told, [[0]] * 22)
        sets = [0, 1, 3, 12, 5, 7, 15, 2048, 4095]
        told = ask_of(width, things, *say_all(base), *[("follow", s) for s in sets], *[("closed", s) for s in sets])
        self.assertEqual(told[64:73], told[73:])

    def test_no_shorter_list_will_do(self):
        every = list(product(range(8), repeat=2))
        seen = set()
        for count in range(1, 4):
            for things in combinations(range(8), count):
                closeds = tuple(definition.closed_sets(3, list(things)))
                if closeds in seen:
                    continue
                seen.add(closeds)
                size = ask_of(3, list(things), "base")[0][0]
                told = [(p, c) for p, c in every if p & c != c and definition.holds(things, p, c)]
                for rules in combinations(told, size - 1) if size else ():
                    # All that holds follows just if the sets of which the rules hold are the closed ones.
                    left = [s for s in range(8) if all(s & c == c or s & p != p for p, c in rules)]
                    self.assertNotEqual(sorted(left), sorted(closeds), (things, rules))


if __name__ == "__main__":
    unittest.main()
