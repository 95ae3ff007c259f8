import unittest

from tests.calling import LOOK, ask, ask_of
from tests.examples import all_but_one


class Spare(unittest.TestCase):
    def test_what_is_common_to_others_is_spare(self):
        told = ask_of(3, [6, 5, 4], ("spare", 0), ("spare", 1), ("spare", 2))
        self.assertEqual(told, [[0], [0], [1]])

    def test_not_spare_if_only_part_of_another(self):
        self.assertEqual(ask_of(3, [7, 3], ("spare", 0), ("spare", 1)), [[1], [0]])

    def test_of_two_with_the_same_set_each_is_spare(self):
        told = ask_of(2, [1, 2, 1], ("spare", 0), ("spare", 1), ("spare", 2))
        self.assertEqual(told, [[1], [0], [1]])

    def test_a_thing_with_all_properties_is_spare(self):
        self.assertEqual(ask_of(2, [3], ("spare", 0)), [[1]])
        self.assertEqual(ask_of(0, [0], ("spare", 0)), [[1]])

    def test_the_only_thing_that_lacks_something_is_not(self):
        self.assertEqual(ask_of(2, [0], ("spare", 0)), [[0]])

    def test_is_not_refused_where_there_are_too_many_closed_sets(self):
        told = ask_of(16, all_but_one(16) + [0, 65535], "closeds", ("spare", 0), ("spare", 15), ("spare", 16),
                      ("spare", 17))
        self.assertEqual(told, [[-4], [0], [0], [1], [1]])

    def test_the_thing_stays(self):
        told = ask_of(3, [6, 5, 4], "print", ("spare", 2), ("spare", 0), "print", ("thing", 0))
        self.assertEqual(told[3], told[0])
        self.assertEqual(told[4], [3])

    def test_no_such_thing(self):
        self.assertEqual(ask(("spare", 0), ("new", 3), ("spare", 0)), [[-1], [0], [-1]])
        for wrong in (2, 3, 63, 64, 4294967295):
            told = ask(("new", 2), ("thing", 1), ("thing", 2), *LOOK, ("spare", wrong), *LOOK)
            self.assertEqual(told[7], [-1])
            self.assertEqual(told[8:], told[3:7])

    def test_the_last_of_sixty_four(self):
        self.assertEqual(ask_of(2, [1] * 63 + [2], ("spare", 62), ("spare", 63), ("spare", 64)), [[1], [0], [-1]])


class Holds(unittest.TestCase):
    def test_of_all_things(self):
        told = ask_of(3, [3, 1, 4], ("holds", 2, 1), ("holds", 1, 2), ("holds", 2, 3), ("holds", 0, 1))
        self.assertEqual(told, [[1], [0], [1], [0]])

    def test_where_no_thing_has_the_premise(self):
        self.assertEqual(ask_of(3, [3, 1, 4], ("holds", 5, 2), ("holds", 6, 7)), [[1], [1]])

    def test_one_thing_that_breaks_it(self):
        self.assertEqual(ask_of(2, [3, 3, 1, 3], ("holds", 1, 2), ("holds", 0, 1)), [[0], [1]])

    def test_a_conclusion_within_the_premise(self):
        self.assertEqual(ask_of(2, [1, 2, 0], ("holds", 1, 1), ("holds", 3, 2), ("holds", 0, 0)), [[1], [1], [1]])

    def test_all_of_the_conclusion(self):
        self.assertEqual(ask_of(3, [3], ("holds", 1, 2), ("holds", 1, 6), ("holds", 0, 3)), [[1], [0], [1]])

    def test_without_things(self):
        self.assertEqual(ask(("holds", 0, 0), ("new", 16), ("holds", 0, 65535)), [[1], [0], [1]])

    def test_is_not_refused_where_there_are_too_many_closed_sets(self):
        self.assertEqual(ask_of(16, all_but_one(16), ("holds", 1, 2), ("holds", 65535, 3)), [[0], [1]])

    def test_properties_from_m_on(self):
        wrong = ((0, 1, 0), (0, 0, 1), (2, 4, 0), (2, 0, 4), (2, 4, 4), (2, 3, 4294967295), (16, 65536, 0),
                 (16, 0, 65536))
        for width, premise, conclusion in wrong:
            told = ask(("new", width), ("thing", 0), *LOOK, ("holds", premise, conclusion), *LOOK)
            self.assertEqual(told[6], [-1])
            self.assertEqual(told[7:], told[2:6])


if __name__ == "__main__":
    unittest.main()
