import builtins
import contextlib
import io
import sys
import unittest
from unittest import mock

from closedbook.book import answers
from tests.calling import NUMBERS, ask, ask_of, laid_out

# All the 23 calls, refusals among them.
CALLS = [
    ("new", 3), ("thing", 5), ("thing", 3), "print", ("closed", 1), ("having", 1), ("next", 0), "closeds",
    ("over", 0), ("under", 7), ("spare", 0), ("holds", 1, 2), ("new", 17), ("read", "x"), ("thing", 8), ("closed", 8),
    ("having", 8), ("next", 8), ("next", 7), ("over", 8), ("under", 8), ("spare", 2), ("holds", 8, 0),
    ("read", "x.\n.x\n"), "print",
    ("read", "x..\n.x.\n..x\n"), "base", "ask", ("say", 6, 7), "yes", ("rule", 1), ("follow", 6), ("follows", 5, 2),
    ("needless", 0), ("forget", 1), ("shown", 5), ("teach", 0, [3]), ("teach", 100, [1, 2, 3]), "yes", ("shown", 3),
    ("new", 3), ("teach", 2, [3, 1]), ("teach", 100, [3, 1]), "ask",
    ("rule", 9), ("forget", 9), ("follow", 8), ("follows", 8, 0), ("needless", 9), ("say", 8, 0), ("teach", 101, []),
    ("teach", 1, [8]), ("say", 1, 2), "ask", "yes", ("shown", 8), ("teach", 1, [1, 2]), ("forget", 0), ("shown", 8),
]
ALL_CALLS = laid_out(CALLS)


class Watched(list):
    """A list that fails at any change, also one that is undone later."""

    def changed(self, *args, **kwargs):
        raise AssertionError("what was handed in is changed")

    append = extend = insert = pop = remove = clear = sort = reverse = changed
    __setitem__ = __delitem__ = __iadd__ = __imul__ = changed


class Layout(unittest.TestCase):
    def test_calls_and_answers_as_plain_lists(self):
        # new 2; thing 1; thing 2; closeds; over 0; holds 1 2; read a text of 3 bytes; print; next 4.
        calls = [1, 2, 4, 1, 4, 2, 8, 9, 0, 12, 1, 2, 2, 3, 46, 120, 10, 3, 7, 4]
        told = [1, 0, 1, 0, 1, 1, 5, 4, 0, 2, 1, 3, 3, 2, 2, 1, 1, 0, 1, 1, 4, 3, 46, 120, 10, 1, -1]
        self.assertEqual(answers(calls), told)

    def test_rules_and_the_talk_as_plain_lists(self):
        # read a text of 12 bytes; base; ask; say 6 7; yes; rule 1; forget 1; follow 6; follows 6 1; needless 0.
        calls = [2, 12, 120, 46, 46, 10, 46, 120, 46, 10, 46, 46, 120, 10]
        calls += [13, 20, 14, 6, 7, 21, 15, 1, 16, 1, 17, 6, 18, 6, 1, 19, 0]
        told = [1, 3, 7, 3, 6, 7, 5, 7, 3, 7, 3, 1, 6, 7, 1, 0, 1, 1, 3, 0, 5, 7, 1, 0, 1, 7, 1, 1, 1, 0]
        # shown 5; teach 0 by no sets; teach 7 by 3, 1 and 5; ask; teach 1 by 9, of which nothing is left behind.
        calls += [22, 5, 23, 0, 0, 23, 7, 3, 3, 1, 5, 20, 23, 1, 1, 9, 20]
        told += [1, 3, 2, 0, 1, 2, 1, 0, 1, 0, 1, -1, 1, 0]
        self.assertEqual(answers(calls), told)

    def test_a_single_call(self):
        self.assertEqual(answers([8]), [2, 1, 0])
        self.assertEqual(answers([3]), [1, 0])
        self.assertEqual(answers([2, 0]), [1, -6])
        self.assertEqual(answers([13]), [1, 0])
        self.assertEqual(answers([20]), [1, 0])
        self.assertEqual(answers([21]), [1, -3])
        self.assertEqual(answers([23, 0, 0]), [2, 0, 0])

    def test_numbers_of_refused_calls_are_passed_over(self):
        self.assertEqual(answers([12, 4294967295, 12, 3]), [1, -1, 1, 0])
        self.assertEqual(answers([2, 3, 1, 2, 3, 3]), [1, -6, 1, 0])
        self.assertEqual(answers([4, 9, 8]), [1, -1, 2, 1, 0])
        self.assertEqual(answers([14, 1, 3, 3]), [1, -1, 1, 0])
        self.assertEqual(answers([23, 101, 2, 3, 3, 3]), [1, -1, 1, 0])
        self.assertEqual(answers([23, 100, 2, 3, 3, 3]), [1, -1, 1, 0])

    def test_a_hundred_calls(self):
        self.assertEqual(answers([5, 0] * 100), [1, 0] * 100)

    def test_thirty_thousand_numbers(self):
        self.assertEqual(answers([2, 29997] + [10] * 29997 + [3]), [1, -6, 1, 0])
        text = list(b"x.\n") * 64
        rest = 30000 - 2 - len(text) - 2
        told = answers([2, len(text)] + text + [2, rest] + [120] * rest)
        self.assertEqual(told, [1, 64, 1, -6])

    def test_only_plain_whole_numbers_are_given_back(self):
        told = answers(ALL_CALLS)
        self.assertIs(type(told), list)
        self.assertEqual({type(number) for number in told}, {int})


class HandedIn(unittest.TestCase):
    def test_all_calls_are_among_them(self):
        self.assertEqual({call if isinstance(call, str) else call[0] for call in CALLS}, set(NUMBERS))
        self.assertEqual(sorted(NUMBERS.values()), list(range(1, 24)))

    def test_is_the_same_afterwards(self):
        calls = list(ALL_CALLS)
        answers(calls)
        self.assertEqual(calls, ALL_CALLS)

    def test_is_not_changed_for_a_while_either(self):
        self.assertEqual(answers(Watched(ALL_CALLS)), answers(ALL_CALLS))

    def test_what_is_given_back_is_new_each_time(self):
        first = answers(ALL_CALLS)
        kept = list(first)
        first.clear()
        self.assertEqual(answers(ALL_CALLS), kept)


class NothingKept(unittest.TestCase):
    def test_a_second_time_begins_with_a_new_book(self):
        look = ["print", "closeds", ("closed", 0), ("closed", 1), ("having", 0), ("spare", 0), ("next", 0)]
        before = ask(*look)
        self.assertEqual(before, [[0], [1, 0], [0], [-1], [0], [-1], [-3]])
        ask(("read", "x.x\n.xx\n"), "closeds")
        self.assertEqual(ask(*look), before)
        ask(("new", 16), ("thing", 5))
        self.assertEqual(ask(*look), before)

    def test_a_second_time_begins_without_rules(self):
        look = [("rule", 0), ("follow", 0), ("needless", 0), "base", "ask", "yes", ("shown", 0), ("teach", 9, [0]),
                ("forget", 1), ("say", 0, 0)]
        before = ask(*look)
        self.assertEqual(before, [[-1], [0], [-1], [0], [0], [-3], [-3], [0, 0], [-1], [0]])
        answers(ALL_CALLS)
        self.assertEqual(ask(*look), before)
        ask(("new", 3), ("say", 1, 2), ("teach", 9, [1]))
        self.assertEqual(ask(*look), before)

    def test_the_same_again(self):
        self.assertEqual(answers(ALL_CALLS), answers(ALL_CALLS))


class NothingElse(unittest.TestCase):
    def test_prints_reads_and_imports_nothing(self):
        refused = mock.Mock(side_effect=AssertionError("nothing is read or imported"))
        shown = io.StringIO()
        modules = set(sys.modules)
        with contextlib.redirect_stdout(shown), contextlib.redirect_stderr(shown):
            with mock.patch.object(builtins, "open", refused), mock.patch.object(builtins, "input", refused):
                with mock.patch.object(builtins, "__import__", refused):
                    answers(ALL_CALLS)
        self.assertEqual(shown.getvalue(), "")
        self.assertEqual(set(sys.modules), modules)


class Asking(unittest.TestCase):
    def test_asking_changes_nothing(self):
        calls = [("closed", 1), ("having", 1), ("next", 1), "closeds", ("over", 1), ("under", 1), ("spare", 1),
                 ("holds", 1, 2), "print", "base", ("rule", 0), ("follow", 1), ("follows", 1, 2), ("needless", 0),
                 "ask"]
        told = ask_of(3, [6, 5, 4, 4, 1], "yes", *calls, *calls[::-1], *calls)[1:]
        size = len(calls)
        self.assertEqual(told[size:2 * size], told[:size][::-1])
        self.assertEqual(told[2 * size:], told[:size])


if __name__ == "__main__":
    unittest.main()
