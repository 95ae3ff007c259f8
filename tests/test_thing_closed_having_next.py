import unittest

from tests.calling import LOOK, ask, ask_of, book_of
from tests.examples import all_but_one

BEYOND = {0: (1, 2, 4294967295), 3: (8, 9, 15, 4294967295), 16: (65536, 65537, 4294967295)}


class Thing(unittest.TestCase):
    def test_numbered_as_they_come(self):
        self.assertEqual(ask(*book_of(3, [5, 0, 7, 5])), [[0], [0], [1], [2], [3]])

    def test_the_thing_is_put_in_at_the_end(self):
        told = ask(("read", "x.\n"), ("thing", 2), "print")
        self.assertEqual(told[1:], [[1], [6] + list(b"x.\n.x\n")])

    def test_two_may_have_the_same_set(self):
        self.assertEqual(ask(*book_of(2, [1, 1]), ("having", 1))[3], [2])

    def test_sixty_four_and_one_more(self):
        told = ask(*book_of(1, [0] * 64), "print", ("thing", 1), "print", ("having", 0))
        self.assertEqual(told[64], [63])
        self.assertEqual(told[66], [-2])
        self.assertEqual(told[67], told[65])
        self.assertEqual(told[68], [64])

    def test_properties_from_m_on_ahead_of_no_room(self):
        told = ask(("read", "x\n" * 64), "print", ("thing", 2), ("thing", 1), "print")
        self.assertEqual(told[2:4], [[-1], [-2]])
        self.assertEqual(told[4], told[1])

    def test_properties_from_m_on_change_nothing(self):
        for width, sets in BEYOND.items():
            for subset in sets:
                told = ask(("new", width), ("thing", 0), *LOOK, ("thing", subset), *LOOK, ("thing", 0))
                self.assertEqual(told[6], [-1])
                self.assertEqual(told[7:11], told[2:6])
                self.assertEqual(told[11], [1])

    def test_room_again_after_new_and_read(self):
        full = ("read", "x\n" * 64)
        self.assertEqual(ask(full, ("new", 1), ("thing", 1))[2], [0])
        self.assertEqual(ask(full, ("read", ".\n"), ("thing", 1))[2], [1])


class Closed(unittest.TestCase):
    def test_what_all_have_that_have_the_sets(self):
        told = ask_of(4, [7, 3, 9], *[("closed", s) for s in (0, 1, 2, 4, 8, 3, 9)])
        self.assertEqual(told, [[1], [1], [3], [7], [9], [3], [9]])

    def test_all_properties_where_no_thing_has_the_set(self):
        self.assertEqual(ask_of(4, [7, 3, 9], ("closed", 12), ("closed", 10)), [[15], [15]])
        self.assertEqual(ask_of(16, [0], ("closed", 1)), [[65535]])

    def test_without_things(self):
        self.assertEqual(ask(("new", 3), ("closed", 0), ("closed", 4))[1:], [[7], [7]])
        self.assertEqual(ask(("closed", 0)), [[0]])

    def test_the_book_as_it_is_now(self):
        told = ask(("new", 2), ("closed", 0), ("thing", 3), ("closed", 0), ("thing", 1), ("closed", 0), ("thing", 2),
                   ("closed", 0))
        self.assertEqual(told[1::2], [[3], [3], [1], [0]])


class Having(unittest.TestCase):
    def test_how_many_have_all_of_it(self):
        told = ask_of(4, [7, 3, 9, 3], *[("having", s) for s in (0, 1, 2, 3, 4, 6, 8, 10, 15)])
        self.assertEqual(told, [[4], [4], [3], [3], [1], [1], [1], [0], [0]])

    def test_without_things(self):
        self.assertEqual(ask(("having", 0), ("new", 16), ("having", 0), ("having", 65535)), [[0], [0], [0], [0]])


class Next(unittest.TestCase):
    def test_one_after_another(self):
        # The closed sets are 0, 4, 2, 5, 7.
        told = ask_of(3, [5, 2, 4], *[("next", s) for s in (0, 4, 2, 5, 7)])
        self.assertEqual(told, [[4], [2], [5], [7], [-3]])

    def test_a_set_that_is_not_closed(self):
        # The closed sets are 0, 2, 6, 1, 3, 7. Not closed are 4, with 2 behind it, and 5, with 3.
        told = ask_of(3, [6, 3, 1], *[("next", s) for s in (0, 4, 2, 6, 1, 5, 3)])
        self.assertEqual(told, [[2], [2], [6], [1], [3], [3], [7]])

    def test_what_comes_next_need_not_be_the_closure(self):
        # 4 is not closed, its closure is 7, and 2 stands between.
        self.assertEqual(ask_of(3, [2], ("closed", 4), ("next", 4)), [[7], [2]])

    def test_the_last_closed_set(self):
        self.assertEqual(ask_of(3, [5, 2, 4], ("next", 7)), [[-3]])
        self.assertEqual(ask_of(3, [7], ("next", 7), ("next", 3)), [[-3], [7]])
        self.assertEqual(ask(("next", 0), ("thing", 0), ("next", 0)), [[-3], [0], [-3]])
        self.assertEqual(ask(("new", 16), ("next", 65535)), [[0], [-3]])

    def test_without_things_all_is_the_only_one(self):
        self.assertEqual(ask(("new", 3), ("next", 0), ("next", 6), ("next", 7))[1:], [[7], [7], [-3]])

    def test_is_not_refused_where_there_are_too_many(self):
        told = ask_of(16, all_but_one(16), "closeds", ("next", 0), ("next", 32768), ("next", 65534), ("next", 65535))
        self.assertEqual(told, [[-4], [32768], [16384], [1], [-3]])


class PropertiesFromMOn(unittest.TestCase):
    def test_refused(self):
        for width, sets in BEYOND.items():
            for subset in sets:
                for call in ("closed", "having", "next"):
                    told = ask(("new", width), ("thing", 0), *LOOK, (call, subset), *LOOK)
                    self.assertEqual(told[6], [-1])
                    self.assertEqual(told[7:], told[2:6])

    def test_ahead_of_none_behind(self):
        self.assertEqual(ask(("next", 1), ("new", 2), ("next", 7), ("next", 3)), [[-1], [0], [-1], [-3]])


class Refused(unittest.TestCase):
    def test_no_next_changes_nothing(self):
        told = ask(("new", 2), ("thing", 1), *LOOK, ("next", 3), *LOOK)
        self.assertEqual(told[6], [-3])
        self.assertEqual(told[7:], told[2:6])


if __name__ == "__main__":
    unittest.main()
