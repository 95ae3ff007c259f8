"""say, rule, forget, follow, follows, needless."""

import unittest
from itertools import product
from random import Random

from tests import definition
from tests.calling import ask, look_at, say_all

BEYOND = ((0, 1), (0, 4294967295), (3, 8), (3, 9), (3, 4294967295), (16, 65536), (16, 4294967295))


def ask_by(width, rules, *calls):
    """The answers to the calls on a book that keeps these rules and no things."""
    return ask(("new", width), *say_all(rules), *calls)[1 + len(rules):]


def unchanged(case, made, call, number, rules):
    """The call is refused by the number, and the book is as before."""
    look = look_at(rules)
    told = ask(*made, *look, call, *look)[len(made):]
    case.assertEqual(told[len(look)], [number], (made, call))
    case.assertEqual(told[len(look) + 1:], told[:len(look)], (made, call))
    case.assertEqual(told[-1], [-1], "there are as many rules as thought")


class Say(unittest.TestCase):
    def test_numbered_as_they_come(self):
        told = ask_by(3, [(1, 2), (2, 4)], ("say", 0, 7), ("rule", 0), ("rule", 1), ("rule", 2))
        self.assertEqual(told, [[2], [0, 1, 2], [0, 2, 4], [0, 0, 7]])

    def test_any_rule_may_be_said(self):
        # The same twice, a premise that lies in its conclusion, one that has it, one that isn't closed.
        rules = [(1, 2), (1, 2), (1, 3), (3, 1), (0, 0), (7, 0), (1, 4)]
        told = ask(("read", "x..\n..x\n"), *say_all(rules), *[("rule", n) for n in range(7)])
        self.assertEqual(told[1:8], [[n] for n in range(7)])
        self.assertEqual(told[8:], [[0, p, c] for p, c in rules])

    def test_a_rule_that_does_not_hold_may_be_said(self):
        told = ask(("read", "x.\n"), ("holds", 1, 2), ("say", 1, 2), ("rule", 0), "print", ("holds", 1, 2))
        self.assertEqual(told, [[1], [0], [0], [0, 1, 2], [3, 120, 46, 10], [0]])

    def test_without_properties_and_with_sixteen(self):
        self.assertEqual(ask(("say", 0, 0), ("rule", 0)), [[0], [0, 0, 0]])
        self.assertEqual(ask_by(16, [(65535, 65535), (0, 32768)], ("rule", 0), ("rule", 1)),
                         [[0, 65535, 65535], [0, 0, 32768]])

    def test_sixty_four_and_one_more(self):
        rules = [(n, n) for n in range(64)]
        told = ask(("new", 6), *say_all(rules), ("rule", 63), ("say", 1, 2), ("rule", 63), ("rule", 64), ("follow", 1))
        self.assertEqual(told[1:65], [[n] for n in range(64)])
        self.assertEqual(told[65:], [[0, 63, 63], [-2], [0, 63, 63], [-1], [1]])

    def test_properties_from_m_on_ahead_of_no_room(self):
        full = [("new", 6), *say_all([(1, 1)] * 64)]
        told = ask(*full, ("say", 64, 0), ("say", 0, 64), ("say", 0, 0), ("rule", 64))[65:]
        self.assertEqual(told, [[-1], [-1], [-2], [-1]])

    def test_room_again_after_forget(self):
        told = ask(("new", 6), *say_all([(1, 1)] * 64), ("forget", 63), ("say", 2, 4), ("say", 0, 0), ("rule", 63))[65:]
        self.assertEqual(told, [[0], [63], [-2], [0, 2, 4]])

    def test_properties_from_m_on_change_nothing(self):
        for width, wrong in BEYOND:
            made = [("new", width), ("thing", 0), ("say", 0, 0)]
            for rule in ((wrong, 0), (0, wrong), (wrong, wrong)):
                unchanged(self, made, ("say", *rule), -1, 1)


class Rule(unittest.TestCase):
    def test_no_such_rule(self):
        self.assertEqual(ask(("rule", 0), ("new", 3), ("rule", 0)), [[-1], [0], [-1]])
        for wrong in (2, 3, 64, 4294967295):
            unchanged(self, [("new", 2), ("say", 1, 2), ("say", 2, 1)], ("rule", wrong), -1, 2)

    def test_a_things_number_is_no_rules_number(self):
        self.assertEqual(ask(("new", 2), ("thing", 1), ("rule", 0))[2], [-1])


class NoRules(unittest.TestCase):
    def test_new_and_read_leave_none(self):
        for begin in (("new", 2), ("new", 5), ("new", 0), ("read", "x.\n"), ("read", "\n")):
            told = ask(("new", 2), ("say", 1, 2), ("say", 0, 1), begin, ("rule", 0), ("follow", 0), ("say", 0, 0))
            self.assertEqual(told[4:], [[-1], [0], [0]])

    def test_refused_they_leave_them(self):
        made = [("new", 2), ("thing", 1), ("say", 1, 2), ("say", 0, 1)]
        for call, number in ((("new", 17), -1), (("new", 4294967295), -1), (("read", "x"), -6), (("read", ""), -6)):
            unchanged(self, made, call, number, 2)

    def test_a_thing_leaves_them(self):
        told = ask(("new", 2), ("say", 1, 2), ("thing", 1), ("rule", 0), ("follow", 1))
        self.assertEqual(told[2:], [[0], [0, 1, 2], [3]])


class Forget(unittest.TestCase):
    RULES = [(1, 2), (2, 4), (4, 8)]

    def test_those_from_n_on_are_gone(self):
        for n in range(4):
            told = ask_by(4, self.RULES, ("forget", n), *[("rule", k) for k in range(4)], ("follow", 1), ("say", 0, 0))
            kept = [[0, *self.RULES[k]] if k < n else [-1] for k in range(4)]
            self.assertEqual(told, [[0]] + kept + [[definition.follow(4, self.RULES[:n], 1)], [n]])

    def test_none_to_forget(self):
        self.assertEqual(ask(("forget", 0), ("forget", 1)), [[0], [-1]])

    def test_fewer_than_n(self):
        for n in (4, 5, 64, 65, 4294967295):
            unchanged(self, [("new", 4), ("thing", 3), *say_all(self.RULES)], ("forget", n), -1, 3)

    def test_all_of_sixty_four(self):
        full = [("new", 6), *say_all([(1, 2)] * 64)]
        told = ask(*full, ("forget", 65), ("rule", 63), ("forget", 64), ("rule", 63), ("forget", 0), ("rule", 0))[65:]
        self.assertEqual(told, [[-1], [0, 1, 2], [0], [0, 1, 2], [0], [-1]])

    def test_things_stay(self):
        told = ask(("read", "x.\n.x\n"), ("say", 1, 2), "print", ("forget", 0), "print")
        self.assertEqual(told[4], told[2])


class Follow(unittest.TestCase):
    def test_one_rule_sets_off_another(self):
        rules = [(4, 8), (2, 4), (1, 2)]
        for order in (rules, rules[::-1]):
            told = ask_by(5, order, *[("follow", s) for s in (0, 1, 2, 4, 8, 16, 17)])
            self.assertEqual(told, [[0], [15], [14], [12], [8], [16], [31]])

    def test_all_of_the_premise_is_needed(self):
        self.assertEqual(ask_by(3, [(3, 4)], ("follow", 1), ("follow", 2), ("follow", 3)), [[1], [2], [7]])

    def test_from_no_properties(self):
        self.assertEqual(ask_by(3, [(0, 1), (1, 4)], ("follow", 0), ("follow", 2)), [[5], [7]])

    def test_the_rule_whose_premise_it_is(self):
        self.assertEqual(ask_by(2, [(1, 2)], ("follow", 1)), [[3]])

    def test_without_rules_the_set_itself(self):
        self.assertEqual(ask(("follow", 0), ("new", 16), ("follow", 0), ("follow", 40000), ("follow", 65535)),
                         [[0], [0], [0], [40000], [65535]])

    def test_by_the_kept_rules_not_by_the_things(self):
        told = ask(("read", "xx\n"), ("closed", 0), ("follow", 0), ("say", 0, 1), ("follow", 0), ("closed", 0))
        self.assertEqual(told[1:], [[3], [0], [0], [1], [3]])

    def test_a_chain_of_sixteen(self):
        chain = [(1 << n, 2 << n) for n in range(15)]
        for order in (chain, chain[::-1]):
            self.assertEqual(ask_by(16, order, ("follow", 1), ("follow", 256), ("follow", 32768)),
                             [[65535], [65280], [32768]])

    def test_properties_from_m_on(self):
        for width, wrong in BEYOND:
            unchanged(self, [("new", width), ("thing", 0), ("say", 0, 0)], ("follow", wrong), -1, 1)


class Follows(unittest.TestCase):
    def test_from_the_kept_rules(self):
        told = ask_by(4, [(1, 2), (2, 4)], ("follows", 1, 4), ("follows", 1, 7), ("follows", 2, 1), ("follows", 9, 12),
                      ("follows", 1, 8), ("follows", 0, 1))
        self.assertEqual(told, [[1], [1], [0], [1], [0], [0]])

    def test_what_lies_in_the_premise_follows_always(self):
        self.assertEqual(ask(("follows", 0, 0)), [[1]])
        told = ask(("new", 16), ("follows", 65535, 255), ("follows", 5, 4), ("follows", 5, 2))
        self.assertEqual(told[1:], [[1], [1], [0]])

    def test_not_from_the_things(self):
        told = ask(("read", "xx\n"), ("holds", 1, 2), ("follows", 1, 2), ("say", 1, 2), ("follows", 1, 2))
        self.assertEqual(told[1:], [[1], [0], [0], [1]])

    def test_properties_from_m_on(self):
        for width, wrong in BEYOND:
            for rule in ((wrong, 0), (0, wrong), (wrong, wrong)):
                unchanged(self, [("new", width), ("thing", 0), ("say", 0, 0)], ("follows", *rule), -1, 1)


class Needless(unittest.TestCase):
    def test_what_follows_from_the_others(self):
        told = ask_by(3, [(1, 2), (2, 4), (1, 4)], *[("needless", n) for n in range(3)])
        self.assertEqual(told, [[0], [0], [1]])

    def test_said_twice_each_is_needless(self):
        told = ask_by(2, [(1, 2), (1, 2), (2, 1)], *[("needless", n) for n in range(3)])
        self.assertEqual(told, [[1], [1], [0]])

    def test_the_same_premise_and_more_in_the_conclusion(self):
        self.assertEqual(ask_by(3, [(1, 2), (1, 6)], ("needless", 0), ("needless", 1)), [[1], [0]])

    def test_a_conclusion_within_the_premise(self):
        told = ask_by(2, [(3, 1), (0, 0), (1, 3)], *[("needless", n) for n in range(3)])
        self.assertEqual(told, [[1], [1], [0]])

    def test_the_only_rule(self):
        self.assertEqual(ask(("say", 0, 0), ("needless", 0)), [[0], [1]])
        self.assertEqual(ask_by(16, [(0, 65535)], ("needless", 0)), [[0]])

    def test_by_rules_not_by_things(self):
        self.assertEqual(ask(("read", "xx\n"), ("say", 1, 2), ("needless", 0))[2], [0])

    def test_the_rule_stays(self):
        told = ask_by(3, [(1, 2), (1, 2)], ("needless", 0), ("rule", 0), ("rule", 1), ("rule", 2), ("follow", 1))
        self.assertEqual(told, [[1], [0, 1, 2], [0, 1, 2], [-1], [3]])

    def test_the_last_of_sixty_four(self):
        rules = [(1, 2)] * 63 + [(2, 4)]
        self.assertEqual(ask_by(6, rules, ("needless", 0), ("needless", 63), ("needless", 64)), [[1], [0], [-1]])

    def test_no_such_rule(self):
        self.assertEqual(ask(("needless", 0)), [[-1]])
        for wrong in (2, 3, 64, 4294967295):
            unchanged(self, [("new", 2), ("say", 1, 2), ("say", 2, 1)], ("needless", wrong), -1, 2)


class AgainstDefinition(unittest.TestCase):
    def check(self, width, rules):
        sets = range(1 << width)
        told = ask_by(width, rules, *[("follow", s) for s in sets], *[("needless", n) for n in range(len(rules))])
        follow = [[definition.follow(width, rules, s)] for s in sets]
        needless = [[int(definition.needless(width, rules, n))] for n in range(len(rules))]
        self.assertEqual(told, follow + needless, (width, rules))

    def check_follows(self, width, rules):
        for premise in range(1 << width):
            told = ask_by(width, rules, *[("follows", premise, c) for c in range(1 << width)])
            expected = [[int(definition.follows(width, rules, premise, c))] for c in range(1 << width)]
            self.assertEqual(told, expected, (width, rules, premise))

    def test_all_few_rules_of_two_properties(self):
        every = list(product(range(4), repeat=2))
        for count in range(3):
            for rules in product(every, repeat=count):
                self.check(2, list(rules))
                self.check_follows(2, list(rules))

    def test_mixed_rules(self):
        rng = Random(7)
        for turn in range(120):
            width = turn % 5 + 1
            rules = [(rng.randrange(1 << width), rng.randrange(1 << width)) for n in range(rng.randrange(9))]
            self.check(width, rules)
            if width < 5:
                self.check_follows(width, rules)

    def test_sixty_four_rules_of_ten_properties(self):
        rng = Random(8)
        rules = []
        while len(rules) < 64:
            premise = rng.randrange(1024) & rng.randrange(1024) | 1 << rng.randrange(10)
            rules.append((premise, 1 << rng.randrange(10)))
        sets = [0] + [1 << n for n in range(10)] + [rng.randrange(1024) for n in range(9)]
        told = ask_by(10, rules, *[("follow", s) for s in sets], ("needless", 0), ("needless", 40), ("needless", 63))
        self.assertEqual(told[:20], [[definition.follow(10, rules, s)] for s in sets])
        self.assertEqual(told[20:], [[int(definition.needless(10, rules, n))] for n in (0, 40, 63)])


if __name__ == "__main__":
    unittest.main()
