import unittest

from tests import definition
from tests.calling import LOOK, ask, ask_of
from tests.examples import all_but_one, thousand, thousand_and_one


class Closeds(unittest.TestCase):
    def test_in_order(self):
        # Property 0 weighs most: 4 comes ahead of 2, and both ahead of 1.
        self.assertEqual(ask_of(3, all_but_one(3), "closeds"), [[8, 0, 4, 2, 6, 1, 5, 3, 7]])

    def test_without_things(self):
        self.assertEqual(ask("closeds", ("new", 3), "closeds"), [[1, 0], [0], [1, 7]])

    def test_without_properties(self):
        self.assertEqual(ask_of(0, [0, 0], "closeds"), [[1, 0]])

    def test_all_properties_are_closed_though_no_thing_has_them(self):
        self.assertEqual(ask_of(2, [0], "closeds"), [[2, 0, 3]])

    def test_no_properties_need_not_be_closed(self):
        self.assertEqual(ask_of(2, [1], "closeds"), [[2, 1, 3]])

    def test_the_same_thing_twice(self):
        self.assertEqual(ask_of(3, [5, 5, 6, 6], "closeds"), ask_of(3, [5, 6], "closeds"))

    def test_a_thousand(self):
        width, things = thousand()
        told = ask_of(width, things, "closeds")[0]
        self.assertEqual(told[0], 1000)
        self.assertEqual(told[1:], definition.closed_sets(width, things))

    def test_a_thousand_whatever_the_order_of_things(self):
        width, things = thousand()
        self.assertEqual(ask_of(width, things[::-1] + things, "closeds"), ask_of(width, things, "closeds"))

    def test_one_more_is_too_many(self):
        width, things = thousand_and_one()
        self.assertEqual(len(definition.closed_sets(width, things)), 1001)
        self.assertEqual(ask_of(width, things, "closeds"), [[-4]])
        self.assertEqual(ask_of(width, things[::-1], "closeds"), [[-4]])

    def test_the_thing_that_makes_them_too_many(self):
        width, things = thousand_and_one()
        told = ask_of(width, things[:-1], "closeds", ("thing", things[-1]), "closeds")
        self.assertNotEqual(told[0], [-4])
        self.assertEqual(told[1:], [[12], [-4]])

    def test_all_sets_are_too_many(self):
        self.assertEqual(ask_of(9, all_but_one(9), "closeds")[0][0], 512)
        self.assertEqual(ask_of(10, all_but_one(10), "closeds"), [[-4]])
        self.assertEqual(ask_of(16, all_but_one(16) * 4, "closeds"), [[-4]])


class Over(unittest.TestCase):
    def test_those_next_above_in_order(self):
        told = ask_of(3, all_but_one(3), ("over", 0), ("over", 4), ("over", 1), ("over", 3), ("over", 7))
        self.assertEqual(told, [[3, 4, 2, 1], [2, 6, 5], [2, 5, 3], [1, 7], [0]])

    def test_only_those_with_no_other_within(self):
        # The closed sets are 0, 8, 1, 3, 7, 15: a chain beside a single one.
        told = ask_of(4, [1, 3, 7, 8], "closeds", ("over", 0), ("over", 1), ("over", 7), ("over", 8))
        self.assertEqual(told, [[6, 0, 8, 1, 3, 7, 15], [2, 8, 1], [1, 3], [1, 15], [1, 15]])

    def test_of_the_closure(self):
        told = ask_of(4, [1, 3, 7, 8], ("over", 2), ("over", 3), ("over", 9))
        self.assertEqual(told, [[1, 7], [1, 7], [0]])

    def test_the_only_closed_set(self):
        self.assertEqual(ask(("over", 0), ("new", 4), ("over", 0), ("over", 15)), [[0], [0], [0], [0]])


class Under(unittest.TestCase):
    def test_those_next_below_in_order(self):
        told = ask_of(3, all_but_one(3), ("under", 7), ("under", 5), ("under", 4), ("under", 0))
        self.assertEqual(told, [[3, 6, 5, 3], [2, 4, 1], [1, 0], [0]])

    def test_only_those_that_lie_in_no_other(self):
        told = ask_of(4, [1, 3, 7, 8], ("under", 15), ("under", 7), ("under", 8), ("under", 1), ("under", 0))
        self.assertEqual(told, [[2, 8, 7], [1, 3], [1, 0], [1, 0], [0]])

    def test_of_the_closure(self):
        told = ask_of(4, [1, 3, 7, 8], ("under", 2), ("under", 3), ("under", 9))
        self.assertEqual(told, [[1, 1], [1, 1], [2, 8, 7]])

    def test_the_only_closed_set(self):
        self.assertEqual(ask(("under", 0), ("new", 4), ("under", 0), ("under", 15)), [[0], [0], [0], [0]])


class Neighbours(unittest.TestCase):
    def test_of_a_thousand(self):
        width, things = thousand()
        closeds = definition.closed_sets(width, things)
        sets = [0, 1, 5, 9, 73, 512, 1024, 3584, 4088, 4095, 2048 + 73]
        for subset in sets:
            closed = definition.closure(width, things, subset)
            above = definition.above(closeds, closed)
            below = definition.below(closeds, closed)
            told = ask_of(width, things, ("over", subset), ("under", subset))
            self.assertEqual(told, [[len(above)] + above, [len(below)] + below])

    def test_too_many_though_few_are_above_or_below(self):
        for width, things in (thousand_and_one(), (10, all_but_one(10)), (16, all_but_one(16))):
            last = (1 << width) - 1
            for call in ("over", "under"):
                told = ask_of(width, things, "print", (call, 0), (call, last), (call, 3), "print")
                self.assertEqual(told[1:4], [[-4], [-4], [-4]])
                self.assertEqual(told[4], told[0])

    def test_properties_from_m_on_ahead_of_too_many(self):
        width, things = thousand_and_one()
        for call in ("over", "under"):
            self.assertEqual(ask_of(width, things, (call, 1 << width), (call, 4294967295), (call, 0)),
                             [[-1], [-1], [-4]])

    def test_properties_from_m_on_change_nothing(self):
        for width, subset in ((0, 1), (3, 8), (3, 4294967295), (16, 65536)):
            for call in ("over", "under"):
                told = ask(("new", width), ("thing", 0), *LOOK, (call, subset), *LOOK)
                self.assertEqual(told[6], [-1])
                self.assertEqual(told[7:], told[2:6])


class Refused(unittest.TestCase):
    def test_too_many_changes_nothing(self):
        width, things = thousand_and_one()
        looks = ["print", ("closed", 0), ("having", 0), ("next", 5)]
        for call in ("closeds", ("over", 0), ("under", 0)):
            told = ask_of(width, things, *looks, call, *looks)
            self.assertEqual(told[4], [-4])
            self.assertEqual(told[5:], told[:4])


if __name__ == "__main__":
    unittest.main()
