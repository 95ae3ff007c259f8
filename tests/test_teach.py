"""teach, and what the promises say of a talk that is held by a crowd."""

import unittest
from random import Random

from tests import definition
from tests.calling import ask, ask_of, look_at, pairs, text_of
from tests.examples import (
    all_but_one, sixty_four_stems, sixty_six_stems, thousand_and_one_with_stems, thousand_with_stems,
)
from tests.model import Model

# The base of these is 6 7, 5 7, 3 7.
THREE = ("read", text_of(3, [1, 2, 4]))


def printed(width, things):
    text = text_of(width, things)
    return [len(text)] + list(text.encode())


class Ends(unittest.TestCase):
    def test_nothing_left_to_ask(self):
        told = ask(THREE, ("teach", 100, [1, 2, 4]), "ask", ("rule", 0), ("rule", 1), ("rule", 2), "print")
        self.assertEqual(told[1:], [[3, 0], [0], [0, 6, 7], [0, 5, 7], [0, 3, 7], printed(3, [1, 2, 4])])

    def test_as_many_as_may_be_and_none_is_left(self):
        self.assertEqual(ask(THREE, ("teach", 3, [1]))[1], [3, 0])

    def test_nothing_to_ask_at_all(self):
        self.assertEqual(ask(("teach", 100, []), ("teach", 0, [0]), ("teach", 1, [0] * 64)), [[0, 0]] * 3)
        self.assertEqual(ask_of(3, all_but_one(3), ("teach", 100, [1, 2])), [[0, 0]])

    def test_one_more_to_ask(self):
        told = ask(THREE, ("teach", 2, []), ("rule", 1), ("rule", 2), "ask")
        self.assertEqual(told[1:], [[2, 1], [0, 5, 7], [-1], [1, 3, 7]])

    def test_no_questions_at_most(self):
        told = ask(THREE, ("teach", 0, [6]), "print", ("rule", 0), "ask")
        self.assertEqual(told[1:], [[0, 1], printed(3, [1, 2, 4]), [-1], [1, 6, 7]])
        self.assertEqual(ask(THREE, "yes", "yes", "yes", ("teach", 0, []))[4], [0, 0])
        self.assertEqual(ask(THREE, ("say", 0, 0), ("teach", 0, []))[2], [0, 5])
        width, things = thousand_and_one_with_stems()
        self.assertEqual(ask_of(width, things, ("teach", 0, [])), [[0, 4]])

    def test_no_room_for_the_thing(self):
        # First 0 brings 3, which 1 breaks; then there are 64 things, and 0 breaks that 0 brings 1.
        told = ask_of(2, [3] * 63, ("teach", 100, [1, 0]), "print", ("rule", 0), "ask")
        self.assertEqual(told, [[2, 2], printed(2, [3] * 63 + [1]), [-1], [1, 0, 1]])
        self.assertEqual(ask_of(2, [3] * 64, ("teach", 1, [1])), [[1, 2]])

    def test_sixty_four_things_and_no_need_of_room(self):
        self.assertEqual(ask_of(2, [3] * 64, ("teach", 100, [3]), ("rule", 0)), [[1, 0], [0, 0, 3]])
        self.assertEqual(ask_of(2, [3] * 63, ("teach", 100, [1]), "print"), [[2, 0], printed(2, [3] * 63 + [1])])

    def test_no_room_for_the_rule(self):
        width, things = sixty_six_stems()
        base = pairs(ask_of(width, things, "base")[0])
        told = ask_of(width, things, ("teach", 100, []), ("rule", 63), ("rule", 64), "ask", ("teach", 1, []),
                      ("teach", 0, []), "print")
        self.assertEqual(told, [[65, 2], [0, *base[63]], [-1], [1, *base[64]], [1, 2], [0, 1], printed(width, things)])

    def test_sixty_four_rules_and_no_need_of_room(self):
        width, things = sixty_four_stems()
        self.assertEqual(ask_of(width, things, ("teach", 100, [])), [[64, 0]])
        self.assertEqual(ask_of(width, things, ("teach", 64, [])), [[64, 0]])
        self.assertEqual(ask_of(width, things, ("teach", 63, []), ("teach", 1, []), ("say", 0, 0)),
                         [[63, 1], [1, 0], [-2]])

    def test_sixty_four_rules_and_a_thing_shown(self):
        width, things = sixty_six_stems()
        base = pairs(ask_of(width, things, "base")[0])
        # The thing breaks no rule but the one asked 65th.
        told = ask_of(width, things, *["yes"] * 64, ("teach", 100, [base[64][0]]), ("rule", 64), "ask")
        self.assertEqual(told[64:], [[2, 2], [-1], [1, *base[65]]])

    def test_what_is_shown_breaks_a_rule_that_is_kept(self):
        # Kept is that 4 brings 7, asked whether 2 does: 6 breaks both.
        made = [("read", text_of(3, [0])), "yes"]
        told = ask(*made, ("teach", 100, [6]), "print", ("rule", 0), ("rule", 1), "ask")[2:]
        self.assertEqual(told, [[1, 3], printed(3, [0]), [0, 4, 7], [-1], [1, 2, 7]])

    def test_that_ahead_of_no_room(self):
        made = [("read", text_of(3, [0] * 64)), "yes"]
        self.assertEqual(ask(*made, ("teach", 100, [6]), ("teach", 100, [2]), ("teach", 100, [6, 2]))[2:],
                         [[1, 3], [1, 2], [1, 3]])

    def test_what_was_kept_and_put_in_before_it_ended_stays(self):
        # Kept is that 4 brings 7. Whether 2 brings 7: 3 is shown; whether it brings 3: yes; whether 1 does: 5 breaks
        # that, and what is kept.
        told = ask_of(3, [0], "yes", ("teach", 100, [3, 5]), "print", ("rule", 0), ("rule", 1), ("rule", 2), "ask")[1:]
        self.assertEqual(told, [[3, 3], printed(3, [0, 3]), [0, 4, 7], [0, 2, 3], [-1], [1, 1, 3]])

    def test_a_set_that_breaks_what_is_kept_but_nothing_that_is_asked(self):
        # 4 breaks that 4 brings 7, which is kept; asked is whether 3 does, which holds of it.
        told = ask_of(3, [0, 1, 2], "yes", "ask", ("teach", 100, [4]), ("rule", 1))
        self.assertEqual(told, [[0], [1, 3, 7], [1, 0], [0, 3, 7]])

    def test_too_many(self):
        width, things = thousand_and_one_with_stems()
        self.assertEqual(ask_of(width, things, ("teach", 100, []), ("rule", 0), "print"),
                         [[0, 4], [-1], printed(width, things)])
        width, things = thousand_with_stems()
        self.assertEqual(ask_of(width, things, ("teach", 100, things)), [[10, 0]])

    def test_too_many_by_what_was_shown(self):
        things = all_but_one(10)[:9]
        told = ask_of(10, things, ("teach", 100, [1023, 511]), "print", ("teach", 100, []))
        self.assertEqual(told, [[1, 4], printed(10, things + [511]), [0, 4]])
        self.assertEqual(ask_of(10, things, ("teach", 1, [511])), [[1, 4]])

    def test_too_many_ahead_of_not_the_first_ones(self):
        width, things = thousand_and_one_with_stems()
        self.assertEqual(ask_of(width, things, ("say", 0, 0), ("teach", 100, []))[1], [0, 4])

    def test_not_the_first_ones(self):
        told = ask(THREE, ("say", 5, 7), ("teach", 100, [6]), "print", ("rule", 0), ("rule", 1))[2:]
        self.assertEqual(told, [[0, 5], printed(3, [1, 2, 4]), [0, 5, 7], [-1]])
        self.assertEqual(ask(("say", 0, 0), ("teach", 100, []))[1], [0, 5])
        self.assertEqual(ask(THREE, "yes", ("thing", 6), ("teach", 100, [6]))[3], [0, 5])


class Crowd(unittest.TestCase):
    def test_of_no_sets_says_yes_to_all(self):
        told = ask(("new", 3), ("teach", 100, []), ("rule", 0), "print")
        self.assertEqual(told[1:], [[1, 0], [0, 0, 7], [0]])

    def test_the_first_of_the_row_is_shown(self):
        told = ask(("new", 3), ("teach", 1, [7, 5, 1, 0]), "print", ("teach", 1, [7, 5, 1, 0]), "print")
        self.assertEqual(told[1:], [[1, 1], printed(3, [5]), [1, 1], printed(3, [5, 1])])
        self.assertEqual(ask(("new", 3), ("teach", 1, [0, 1, 5, 7]), "print")[2], printed(3, [0]))

    def test_the_first_though_a_later_one_would_do(self):
        # Kept is that 4 brings 7, asked whether 2 does: 6 breaks both, 2 only what's asked.
        made = [("read", text_of(3, [0])), "yes"]
        self.assertEqual(ask(*made, ("teach", 1, [6, 2]), "print")[2:], [[1, 3], printed(3, [0])])
        self.assertEqual(ask(*made, ("teach", 1, [2, 6]), "print")[2:], [[1, 1], printed(3, [0, 2])])

    def test_things_put_in_need_not_be_of_it(self):
        self.assertEqual(ask_of(2, [1, 2], ("teach", 100, [3])), [[0, 0]])
        self.assertEqual(ask_of(2, [1], ("teach", 100, [2]), "print"), [[1, 0], printed(2, [1, 2])])

    def test_of_sixty_four(self):
        rng = Random(31)
        crowd = [rng.randrange(32) for n in range(64)]
        model = Model()
        calls = [("new", 5), ("teach", 100, crowd), "print", "base", ("rule", 0)]
        self.assertEqual(ask(*calls), [model.answer(call) for call in calls])

    def test_the_last_of_sixty_four_is_shown(self):
        self.assertEqual(ask(("new", 3), ("teach", 1, [7] * 63 + [3]), "print")[1:], [[1, 1], printed(3, [3])])

    def test_sixteen_properties(self):
        told = ask(("new", 16), ("teach", 100, [65535, 32767]), "print", ("follow", 0))
        self.assertEqual(told[1:], [[2, 0], printed(16, [32767]), [32767]])


class Refused(unittest.TestCase):
    def refused(self, made, call, rules):
        look = look_at(rules)
        told = ask(*made, *look, call, *look)[len(made):]
        self.assertEqual(told[len(look)], [-1], (made, call))
        self.assertEqual(told[len(look) + 1:], told[:len(look)], (made, call))

    def test_more_than_a_hundred_questions(self):
        for most in (101, 102, 65536, 4294967295):
            self.refused([THREE, "yes"], ("teach", most, []), 1)
            self.refused([THREE, "yes"], ("teach", most, [1, 2]), 1)
        self.assertEqual(ask(THREE, ("teach", 100, []))[1], [3, 0])

    def test_a_set_with_properties_from_m_on(self):
        for crowd in ([8], [15], [4294967295], [1, 2, 8], [6, 8], [8] + [1] * 63, [1] * 63 + [8]):
            for most in (0, 1, 100, 101):
                self.refused([THREE], ("teach", most, crowd), 0)
        self.refused([], ("teach", 1, [1]), 0)
        self.refused([("new", 16)], ("teach", 1, [65535, 65536]), 0)

    def test_ahead_of_how_it_would_end(self):
        width, things = thousand_and_one_with_stems()
        self.assertEqual(ask_of(width, things, ("teach", 101, []), ("teach", 100, [1 << width])), [[-1], [-1]])
        made = [THREE, ("say", 5, 7)]
        self.assertEqual(ask(*made, ("teach", 101, []), ("teach", 0, [8]))[2:], [[-1], [-1]])
        self.assertEqual(ask(("teach", 101, []), ("teach", 0, [1])), [[-1], [-1]])

    def test_the_row_is_passed_over(self):
        self.assertEqual(ask(("new", 1), ("teach", 101, [3, 3, 3]), ("teach", 1, [3, 20, 21]), "print"),
                         [[0], [-1], [-1], [0]])


def mixed_crowds():
    """Books with what a crowd of which the things are would teach them, some crowds with more."""
    rng = Random(32)
    made = []
    for turn in range(40):
        width = turn % 4 + 2
        crowd = [rng.randrange(1 << width) for n in range(rng.randrange(8))]
        things = rng.sample(crowd, rng.randrange(len(crowd) + 1))
        made.append((width, things, crowd))
    return made


class Promises(unittest.TestCase):
    def test_to_the_end_the_rules_are_the_base_and_tell_what_holds_of_the_crowd(self):
        for width, things, crowd in mixed_crowds():
            made = [("new", width), *[("thing", t) for t in things], ("teach", 100, crowd)]
            told = ask(*made, "base", "ask", "print")
            self.assertEqual(told[len(made) - 1][1], 0)
            self.assertEqual(told[-2], [0])
            base = pairs(told[-3])
            self.assertEqual(base, definition.base(width, crowd))
            kept = ask(*made, *[("rule", n) for n in range(len(base) + 1)])[len(made):]
            self.assertEqual(kept, [[0, *rule] for rule in base] + [[-1]])
            for premise in range(1 << width):
                told = ask(*made, *[("follows", premise, c) for c in range(1 << width)])[len(made):]
                holds = [[int(definition.holds(crowd, premise, c))] for c in range(1 << width)]
                self.assertEqual(told, holds, (width, things, crowd, premise))

    def test_each_question_is_a_rule_kept_or_a_thing_put_in(self):
        for width, things, crowd in mixed_crowds():
            made = [("new", width), *[("thing", t) for t in things]]
            told = ask(*made, ("teach", 100, crowd), ("having", 0), ("say", 0, 0))[len(made):]
            self.assertEqual(told[0][0], told[1][0] - len(things) + told[2][0])

    def test_in_pieces_as_at_once(self):
        for width, things, crowd in mixed_crowds():
            made = [("new", width), *[("thing", t) for t in things]]
            whole = ask(*made, ("teach", 100, crowd), *look_at(12))[len(made):]
            for piece in (1, 2, 3):
                count = whole[0][0] // piece + 1
                told = ask(*made, *[("teach", piece, crowd)] * count, *look_at(12))[len(made):]
                self.assertEqual(sum(part[0] for part in told[:count]), whole[0][0])
                self.assertEqual([part[1] for part in told[:count]], self.piece_ends(whole[0], piece))
                self.assertEqual(told[count:], whole[1:])

    def piece_ends(self, whole, piece):
        """Each piece but the last ends with one more to ask, unless the end is reached with it."""
        count = whole[0] // piece + 1
        return [1 if (n + 1) * piece < whole[0] else whole[1] for n in range(count)]

    def test_in_pieces_as_at_once_to_an_end_for_want_of_room(self):
        width, things = sixty_six_stems()
        whole = ask_of(width, things, ("teach", 100, []), ("rule", 63), ("rule", 64), "print", "ask")
        told = ask_of(width, things, *[("teach", 13, [])] * 5, ("rule", 63), ("rule", 64), "print", "ask")
        self.assertEqual(told[:5], [[13, 1]] * 4 + [[13, 2]])
        self.assertEqual(told[5:], whole[1:])

    def test_as_asked_and_answered_by_hand(self):
        for width, things, crowd in mixed_crowds():
            model = Model()
            made = [("new", width), *[("thing", t) for t in things]]
            for call in made:
                model.answer(call)
            by_hand = []
            while model.call_ask()[0] == 1:
                rule = model.call_ask()[1:]
                against = [t for t in crowd if not definition.holds([t], *rule)]
                by_hand.append(("shown", against[0]) if against else "yes")
                model.answer(by_hand[-1])
            told = ask(*made, *by_hand, *look_at(12), "ask")[len(made) + len(by_hand):]
            taught = ask(*made, ("teach", 100, crowd), *look_at(12), "ask")[len(made):]
            self.assertEqual(taught, [[len(by_hand), 0]] + told)

    def test_a_larger_crowd(self):
        rng = Random(33)
        for width, count in ((8, 64), (10, 12), (16, 5), (12, 64), (16, 64)):
            crowd = [rng.randrange(1 << width) & rng.randrange(1 << width) for n in range(count)]
            calls = [("new", width)] + [("teach", 100, crowd)] * 3
            told = ask(*calls, "print", "ask", "base")
            ended = told[3][1]
            self.assertIn(ended, (0, 2, 4))
            if ended == 0:
                self.assertEqual(pairs(told[-1]), definition.base_by_striking(width, crowd))
                self.assertEqual(told[-2], [0])
            if ended == 4:
                self.assertEqual(told[-2:], [[-4], [-4]])


if __name__ == "__main__":
    unittest.main()
