"""ask, yes, shown."""

import unittest
from random import Random

from tests import definition
from tests.calling import Line, ask, ask_of, look_at, pairs, say_all, text_of
from tests.examples import (
    all_but_one, sixty_four_stems, sixty_six_stems, thousand_and_one_with_stems, thousand_with_stems,
)

# The base of these is 6 7, 5 7, 3 7.
THREE = ("read", text_of(3, [1, 2, 4]))


def base_of(width, things):
    return pairs(ask_of(width, things, "base")[0])


class Refusing(unittest.TestCase):
    def refused(self, made, call, number, rules):
        """The call is refused by the number, and the book is as before."""
        look = look_at(rules) + ["ask", "base"]
        told = ask(*made, *look, call, *look)[len(made):]
        self.assertEqual(told[len(look)], [number], (made, call))
        self.assertEqual(told[len(look) + 1:], told[:len(look)], (made, call))
        self.assertEqual(told[1 + rules + 1], [-1], "there are as many rules as thought")


class Ask(unittest.TestCase):
    def test_the_base_s_rules_one_after_another(self):
        told = ask(THREE, "ask", ("say", 6, 7), "ask", ("say", 5, 7), "ask", ("say", 3, 7), "ask")
        self.assertEqual(told[1::2], [[1, 6, 7], [1, 5, 7], [1, 3, 7], [0]])

    def test_asking_changes_nothing(self):
        told = ask(THREE, "ask", "ask", "print", ("rule", 0), "ask")
        self.assertEqual(told[1:3] + told[4:], [[1, 6, 7], [1, 6, 7], [-1], [1, 6, 7]])

    def test_no_properties_as_the_premise(self):
        told = ask(("new", 3), "ask", ("say", 0, 7), "ask", ("thing", 5), "ask", ("forget", 0), "ask")
        self.assertEqual(told[1::2], [[1, 0, 7], [0], [-5], [1, 0, 5]])

    def test_nothing_to_ask_without_properties(self):
        self.assertEqual(ask("ask", ("thing", 0), "ask", ("new", 0), "ask"), [[0], [0], [0], [0], [0]])

    def test_nothing_to_ask_where_all_sets_are_closed(self):
        self.assertEqual(ask_of(9, all_but_one(9), "ask"), [[0]])

    def test_sixteen_properties(self):
        self.assertEqual(ask(("new", 16), "ask")[1], [1, 0, 65535])
        told = ask_of(16, [0], "ask", ("say", 32768, 65535), "ask")
        self.assertEqual(told, [[1, 32768, 65535], [0], [1, 16384, 65535]])

    def test_with_sixty_four_things_and_with_sixty_four_rules(self):
        self.assertEqual(ask_of(1, [1] * 64, "ask"), [[1, 0, 1]])
        width, things = sixty_six_stems()
        base = base_of(width, things)
        told = ask_of(width, things, *say_all(base[:64]), "ask")
        self.assertEqual(told[64], [1, *base[64]])

    def test_rules_by_hand_that_are_the_first_ones(self):
        rng = Random(21)
        for turn in range(40):
            things = [rng.randrange(32) for n in range(rng.randrange(1, 9))]
            base = base_of(5, things)
            for kept in range(len(base) + 1):
                asked = definition.question(5, things, base[:kept])
                told = ask_of(5, things, *say_all(base[:kept]), "ask")[kept]
                self.assertEqual(told, [0] if asked is None else [1, *asked])
                self.assertEqual(asked, base[kept] if kept < len(base) else None)

    def test_rules_by_hand_that_are_not(self):
        wrong = [
            [(5, 7)],
            [(3, 7)],
            [(5, 7), (6, 7)],
            [(6, 7), (3, 7)],
            [(6, 7), (5, 7), (3, 7), (7, 7)],
            [(6, 7), (5, 7), (3, 7), (3, 7)],
            [(6, 7), (6, 7)],
            [(6, 1)],
            [(6, 5)],
            [(6, 6)],
            [(6, 0)],
            [(0, 0)],
            [(7, 7)],
            [(7, 6)],
            [(6, 7), (5, 7), (3, 4)],
            [(6, 7), (5, 2), (3, 7)],
        ]
        for rules in wrong:
            told = ask(THREE, *say_all(rules), "ask", "yes", ("shown", 6), ("shown", 8), ("teach", 5, []))
            self.assertEqual(told[1 + len(rules):], [[-5]] * 4 + [[0, 5]], rules)

    def test_a_rule_that_says_the_same_otherwise_is_not_the_base_s(self):
        # That 6 brings 1 says as much as that it brings 7, but the base has 7.
        self.assertEqual(ask(THREE, ("say", 6, 1), ("follow", 6), "ask")[2:], [[7], [-5]])

    def test_after_forgetting_what_is_not(self):
        told = ask(THREE, ("say", 6, 7), ("say", 3, 7), "ask", ("forget", 1), "ask", ("forget", 0), "ask")
        self.assertEqual(told[3::2], [[-5], [1, 5, 7], [1, 6, 7]])

    def test_things_put_in_after_rules(self):
        # 6 is now closed.
        self.assertEqual(ask(THREE, "yes", "ask", ("thing", 6), "ask", ("forget", 0), "ask")[2::2],
                         [[1, 5, 7], [-5], [1, 5, 7]])
        # What doesn't break a rule that is kept leaves the talk as it was.
        self.assertEqual(ask(THREE, "yes", ("thing", 5), "ask", ("thing", 7), "ask")[3::2], [[1, 3, 7], [1, 3, 7]])

    def test_a_thing_that_changes_a_conclusion(self):
        told = ask(("new", 3), "yes", "ask", ("thing", 3), "ask", ("forget", 0), "ask")
        self.assertEqual(told[2::2], [[0], [-5], [1, 0, 3]])

    def test_too_many(self):
        width, things = thousand_with_stems()
        base = definition.base_by_striking(width, things)
        told = ask_of(width, things, "ask", *say_all(base[:9]), "ask", ("say", *base[9]), "ask", ("say", 0, 0), "ask")
        self.assertEqual(told[0], [1, *base[0]])
        self.assertEqual(told[10::2], [[1, *base[9]], [0], [-5]])
        width, things = thousand_and_one_with_stems()
        self.assertEqual(ask_of(width, things, "ask"), [[-4]])
        self.assertEqual(ask_of(10, all_but_one(10), "ask"), [[-4]])
        self.assertEqual(ask_of(16, all_but_one(16), "ask"), [[-4]])

    def test_too_many_ahead_of_not_the_first_ones(self):
        width, things = thousand_and_one_with_stems()
        self.assertEqual(ask_of(width, things, ("say", 0, 0), "ask", ("say", 3, 7), "ask")[1::2], [[-4], [-4]])


class AskRefused(Refusing):
    def test_changes_nothing(self):
        width, things = thousand_and_one_with_stems()
        self.refused([("read", text_of(width, things)), ("say", 1, 2)], "ask", -4, 1)
        self.refused([THREE, ("say", 5, 7), ("say", 1, 2)], "ask", -5, 2)


class Yes(Refusing):
    def test_the_question_s_rule_is_kept(self):
        told = ask(THREE, "yes", "yes", ("rule", 0), ("rule", 1), ("rule", 2), "ask", "yes", ("rule", 2), "ask")
        self.assertEqual(told[1:], [[0], [1], [0, 6, 7], [0, 5, 7], [-1], [1, 3, 7], [2], [0, 3, 7], [0]])

    def test_behind_rules_by_hand(self):
        self.assertEqual(ask(THREE, ("say", 6, 7), "yes", ("rule", 1))[2:], [[1], [0, 5, 7]])

    def test_things_stay(self):
        told = ask(THREE, "print", "yes", "print", "base")
        self.assertEqual(told[3], told[1])
        self.assertEqual(told[4], [3, 6, 7, 5, 7, 3, 7])

    def test_yes_to_all_keeps_the_base(self):
        rng = Random(22)
        for turn in range(30):
            things = [rng.randrange(64) for n in range(rng.randrange(1, 9))]
            base = base_of(6, things)
            told = ask_of(6, things, *["yes"] * len(base), "ask", "yes", *[("rule", n) for n in range(len(base))])
            self.assertEqual(told, [[n] for n in range(len(base))] + [[0], [-3]] + [[0, *rule] for rule in base])

    def test_too_many(self):
        width, things = thousand_and_one_with_stems()
        made = [("read", text_of(width, things))]
        self.refused(made, "yes", -4, 0)
        width, things = thousand_with_stems()
        self.assertEqual(ask_of(width, things, *["yes"] * 11), [[n] for n in range(10)] + [[-3]])

    def test_not_the_first_ones(self):
        self.refused([THREE, ("say", 5, 7)], "yes", -5, 1)
        self.refused([("say", 0, 0)], "yes", -5, 1)

    def test_nothing_to_ask(self):
        self.refused([("new", 0)], "yes", -3, 0)
        self.refused([THREE, "yes", "yes", "yes"], "yes", -3, 3)

    def test_no_room(self):
        width, things = sixty_six_stems()
        base = base_of(width, things)
        look = [("rule", 0), ("rule", 63), ("rule", 64), "print", "ask"]
        told = ask_of(width, things, *say_all(base[:63]), "yes", *look, "yes", *look, ("forget", 63), "yes")[63:]
        self.assertEqual(told[0], [63])
        self.assertEqual(told[1:4] + [told[5]], [[0, *base[0]], [0, *base[63]], [-1], [1, *base[64]]])
        self.assertEqual(told[6], [-2])
        self.assertEqual(told[7:12], told[1:6])
        self.assertEqual(told[12:], [[0], [63]])

    def test_several_due(self):
        width, things = thousand_and_one_with_stems()
        # Too many, ahead of rules that aren't the first ones, and of no room.
        self.assertEqual(ask_of(width, things, ("say", 1, 2), "yes")[1], [-4])
        self.assertEqual(ask_of(width, things, *say_all([(1, 2)] * 64), "yes")[64], [-4])
        # Not the first ones, ahead of no room.
        width, things = sixty_six_stems()
        self.assertEqual(ask_of(width, things, *say_all([(1, 2)] * 64), "yes")[64], [-5])
        # Not the first ones, ahead of nothing to ask.
        self.assertEqual(ask_of(2, all_but_one(2), ("say", 0, 0), "yes")[1], [-5])
        # Nothing to ask, ahead of no room.
        width, things = sixty_four_stems()
        told = ask_of(width, things, *["yes"] * 65, "ask", ("say", 0, 0))
        self.assertEqual(told, [[n] for n in range(64)] + [[-3], [0], [-2]])


class Shown(Refusing):
    def test_the_thing_is_put_in(self):
        told = ask(THREE, "ask", ("shown", 6), "print", "ask", ("rule", 0))
        self.assertEqual(told[1:], [[1, 6, 7], [3], [16] + list(b"x..\n.x.\n..x\n.xx\n"), [1, 5, 7], [-1]])

    def test_more_than_the_premise_and_a_part_of_the_conclusion(self):
        told = ask(("new", 4), "ask", ("shown", 3), "ask", ("shown", 14), "ask")
        self.assertEqual(told[1:], [[1, 0, 15], [0], [1, 0, 3], [1], [1, 0, 2]])

    def test_the_same_premise_again_with_less_to_conclude(self):
        self.assertEqual(ask(("new", 3), ("shown", 6), "ask", ("shown", 2), "ask", ("shown", 0), "ask")[2::2],
                         [[1, 0, 6], [1, 0, 2], [1, 4, 6]])

    def test_numbered_behind_the_things_there_are(self):
        told = ask(("new", 2), ("thing", 3), ("shown", 1), ("thing", 0), ("having", 0))
        self.assertEqual(told[1:], [[0], [1], [2], [3]])

    def test_what_does_not_break_the_question(self):
        # The question is whether 6 brings 7.
        for wrong in (0, 1, 2, 3, 4, 5, 7):
            self.refused([THREE], ("shown", wrong), -6, 0)

    def test_what_breaks_a_rule_that_is_kept(self):
        # Kept is that 4 brings 7, asked whether 2 does: 6 breaks both.
        made = [("read", text_of(3, [0])), "yes"]
        self.assertEqual(ask(*made, "ask")[1:], [[0], [1, 2, 7]])
        self.refused(made, ("shown", 6), -6, 1)
        self.assertEqual(ask(*made, ("shown", 2))[2], [1])
        self.assertEqual(ask(*made, ("shown", 3))[2], [1])

    def test_properties_from_m_on(self):
        for wrong in (8, 14, 6 + 8, 4294967295, 4294967294):
            self.refused([THREE], ("shown", wrong), -6, 0)
        self.refused([("new", 16)], ("shown", 65536), -6, 0)
        self.refused([("new", 1)], ("shown", 2), -6, 0)

    def test_too_many(self):
        width, things = thousand_and_one_with_stems()
        self.refused([("read", text_of(width, things))], ("shown", 0), -4, 0)
        width, things = thousand_with_stems()
        premise = definition.base_by_striking(width, things)[0][0]
        self.assertEqual(ask_of(width, things, ("shown", premise), ("having", 0)), [[13], [14]])

    def test_too_many_by_what_was_shown(self):
        told = ask_of(10, all_but_one(10)[:9], "ask", ("shown", 511), "print", "ask", "yes", ("shown", 511), "base")
        self.assertEqual(told[:2], [[1, 0, 512], [9]])
        self.assertEqual(told[2][0], 110)
        self.assertEqual(told[3:], [[-4]] * 4)

    def test_not_the_first_ones(self):
        self.refused([THREE, ("say", 5, 7)], ("shown", 6), -5, 1)

    def test_nothing_to_ask(self):
        self.refused([("new", 0)], ("shown", 0), -3, 0)
        self.refused([THREE, "yes", "yes", "yes"], ("shown", 6), -3, 3)

    def test_no_room(self):
        full = ("read", text_of(2, [3] * 64))
        self.refused([full], ("shown", 1), -2, 0)
        self.assertEqual(ask(("read", text_of(2, [3] * 63)), ("shown", 1), "ask", ("shown", 0), ("having", 0))[1:],
                         [[63], [1, 0, 1], [-2], [64]])

    def test_several_due(self):
        width, things = thousand_and_one_with_stems()
        beyond = 1 << width
        # Too many, ahead of all; properties from m on are not told by -1.
        full = (things * 5)[:64]
        self.assertEqual(ask_of(width, full, ("shown", beyond), ("shown", 0), ("say", 1, 2), ("shown", beyond)),
                         [[-4], [-4], [0], [-4]])
        # Not the first ones, ahead of nothing to ask, of what breaks no rule, and of no room.
        full = ("read", text_of(2, [1, 2] * 32))
        self.assertEqual(ask(full, ("say", 1, 3), ("shown", 4), ("shown", 1))[2:], [[-5], [-5]])
        # Nothing to ask, ahead of what breaks no rule and of no room.
        self.assertEqual(ask(full, "ask", ("shown", 4), ("shown", 0), ("shown", 4294967295))[1:],
                         [[0], [-3], [-3], [-3]])
        # What breaks no rule, ahead of no room.
        full = ("read", text_of(2, [3] * 64))
        told = ask(full, ("shown", 3), ("shown", 4), ("shown", 5), ("shown", 1))
        self.assertEqual(told[1:], [[-6], [-6], [-6], [-2]])


class Talk(unittest.TestCase):
    """Held to the end, answered truly by a crowd, it's never refused, and all that holds is known."""

    def hold(self, width, crowd, *made):
        line = Line(("new", width), *made)
        kept = sum(call[0] == "say" for call in made)
        while True:
            asked = line.call("ask")
            if asked == [0]:
                return line
            self.assertEqual(asked[0], 1)
            # None is asked whose answer follows from what's known.
            self.assertEqual(line.call("follows", *asked[1:]), [0])
            self.assertEqual(line.call("holds", *asked[1:]), [1])
            self.assertEqual(pairs(line.call("base"))[kept], tuple(asked[1:]))
            against = [t for t in crowd if not definition.holds([t], *asked[1:])]
            told = line.call("shown", against[-1]) if against else line.call("yes")
            self.assertGreaterEqual(told[0], 0)
            kept += not against

    def check_end(self, width, crowd, line):
        rules = []
        while True:
            told = line.call("rule", len(rules))
            if told == [-1]:
                break
            rules.append(tuple(told[1:]))
        self.assertEqual(pairs(line.call("base")), rules)
        for subset in range(1 << width):
            known = definition.closure(width, crowd, subset)
            self.assertEqual(ask(*line.calls, ("follow", subset), ("closed", subset))[-2:], [[known], [known]])
        for premise in range(1 << width):
            told = ask(*line.calls, *[("follows", premise, c) for c in range(1 << width)])[len(line.calls):]
            self.assertEqual(told, [[int(definition.holds(crowd, premise, c))] for c in range(1 << width)])

    def test_from_nothing(self):
        rng = Random(23)
        for turn in range(16):
            width = turn % 4 + 1
            crowd = [rng.randrange(1 << width) for n in range(rng.randrange(7))]
            self.check_end(width, crowd, self.hold(width, crowd))

    def test_from_some_things_and_rules(self):
        rng = Random(24)
        for turn in range(16):
            width = turn % 3 + 2
            crowd = [rng.randrange(1 << width) for n in range(rng.randrange(1, 7))]
            things = rng.sample(crowd, rng.randrange(len(crowd) + 1))
            rules = []
            for rule in definition.base(width, things):
                if not definition.holds(crowd, *rule):
                    break
                rules.append(rule)
            rules = rules[:rng.randrange(len(rules) + 1)]
            made = [("thing", t) for t in things] + say_all(rules)
            self.check_end(width, crowd, self.hold(width, crowd, *made))


if __name__ == "__main__":
    unittest.main()
