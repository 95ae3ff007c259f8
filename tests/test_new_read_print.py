import unittest

from tests.calling import LOOK, ask, text_of


class New(unittest.TestCase):
    def test_a_new_list_begins_without_properties_and_things(self):
        self.assertEqual(ask("print", "closeds", ("closed", 0), ("having", 0)), [[0], [1, 0], [0], [0]])
        self.assertEqual(ask(("closed", 1)), [[-1]])

    def test_new_sets_the_number_of_properties(self):
        self.assertEqual(ask(("new", 3), ("closed", 0), ("closed", 7), ("closed", 8)), [[0], [7], [7], [-1]])

    def test_least_and_most(self):
        self.assertEqual(ask(("new", 0), ("closed", 0), ("closed", 1)), [[0], [0], [-1]])
        self.assertEqual(ask(("new", 16), ("closed", 0), ("closed", 65535), ("closed", 65536)),
                         [[0], [65535], [65535], [-1]])

    def test_new_takes_the_things_away(self):
        told = ask(("new", 2), ("thing", 1), ("new", 2), "print", ("having", 0), ("thing", 3))
        self.assertEqual(told, [[0], [0], [0], [0], [0], [0]])

    def test_refused_changes_nothing(self):
        for wrong in (17, 18, 32, 64, 4294967295):
            told = ask(("new", 2), ("thing", 1), *LOOK, ("new", wrong), *LOOK)
            self.assertEqual(told[6], [-1])
            self.assertEqual(told[7:], told[2:6])


class Read(unittest.TestCase):
    def test_properties_and_things_are_the_texts(self):
        told = ask(("read", "x..\n.xx\n"), ("closed", 0), ("closed", 2), ("having", 1), ("closed", 8))
        self.assertEqual(told, [[2], [0], [6], [1], [-1]])

    def test_what_was_there_is_gone(self):
        told = ask(("new", 5), ("thing", 31), ("thing", 0), ("read", ".x\n"), "print", ("having", 0), ("thing", 0))
        self.assertEqual(told[3:], [[1], [3, 46, 120, 10], [1], [1]])

    def test_lines_of_no_bytes(self):
        self.assertEqual(ask(("new", 4), ("read", "\n"), "print", ("closed", 1), ("having", 0)),
                         [[0], [1], [1, 10], [-1], [1]])
        self.assertEqual(ask(("read", "\n" * 64), "print"), [[64], [64] + [10] * 64])

    def test_same_lines_are_things_each(self):
        self.assertEqual(ask(("read", "x.\nx.\n"), ("having", 1)), [[2], [2]])

    def test_as_many_lines_as_may_be(self):
        self.assertEqual(ask(("read", "x.\n" * 64), ("having", 1)), [[64], [64]])
        text = "x" * 16 + "\n"
        self.assertEqual(ask(("read", text * 64), ("having", 65535)), [[64], [64]])

    def test_as_long_lines_as_may_be(self):
        self.assertEqual(ask(("read", "." * 15 + "x\n"), ("closed", 0)), [[1], [32768]])

    def test_no_things_text_is_refused_and_changes_nothing(self):
        wrong = [
            "",
            "x",
            "x.\n.x",
            "\nx",
            "x\n" * 65,
            "\n" * 65,
            "x" * 17 + "\n",
            "." * 17 + "\n",
            "x.\n.\n",
            "x\n.x\n",
            "x.\n\n",
            "\nx.\n",
            "x.\n.x\n\n",
            "xX\n",
            "x \n",
            "x.\r\n",
            "x,\n",
            "xo\n.x\n",
            [120, 0, 10],
            [120, 255, 10],
            [120, 11, 10],
            [119, 10],
            [121, 10],
            [45, 10],
            [47, 10],
            [120, 46, 9],
            [10] * 29000,
            [120] * 29000,
        ]
        for text in wrong:
            told = ask(("new", 2), ("thing", 1), *LOOK, ("read", text), *LOOK)
            self.assertEqual(told[6], [-6], text[:40])
            self.assertEqual(told[7:], told[2:6], text[:40])


class Print(unittest.TestCase):
    def test_of_no_things(self):
        self.assertEqual(ask("print", ("new", 0), "print", ("new", 16), "print"), [[0], [0], [0], [0], [0]])

    def test_property_zero_stands_first(self):
        told = ask(("new", 3), ("thing", 1), ("thing", 6), "print")
        self.assertEqual(told[3], [8] + list(b"x..\n.xx\n"))

    def test_of_no_properties(self):
        self.assertEqual(ask(("thing", 0), ("thing", 0), "print"), [[0], [1], [2, 10, 10]])

    def test_what_was_read_is_printed(self):
        for width in (0, 1, 2, 7, 15, 16):
            for count in (1, 2, 63, 64):
                things = [n * 40503 % (1 << width) for n in range(count)]
                text = text_of(width, things)
                told = ask(("read", text), "print", "print")
                self.assertEqual(told, [[count], [len(text)] + list(text.encode())] + told[1:2])

    def test_sixty_four_things_of_sixteen_properties(self):
        text = text_of(16, [n * 1021 for n in range(64)])
        self.assertEqual(len(ask(("read", text), "print")[1]), 1 + 64 * 17)


if __name__ == "__main__":
    unittest.main()
