"""Whole lists of calls, all 23 mixed, beside the book that tries every set."""

import unittest
from random import Random

from tests.calling import ask, text_of
from tests.model import Model


def some_set(rng, width):
    """Mostly a set of the properties there are."""
    if rng.random() < 0.05:
        return rng.choice([1 << width, (1 << width) + rng.randrange(1 << width), 4294967295])
    return rng.randrange(1 << width)


def some_rule(rng, model):
    base = model.base()
    kept = len(model.rules)
    if kept < len(base) and rng.random() < 0.8:
        return base[kept]
    if base and rng.random() < 0.5:
        premise, conclusion = rng.choice(base)
        return premise, conclusion & some_set(rng, model.width) if rng.random() < 0.5 else conclusion
    return some_set(rng, model.width), some_set(rng, model.width)


def keeps_rules(model, thing):
    return all(thing & c == c or thing & p != p for p, c in model.rules)


def some_crowd(rng, model):
    crowd = [some_set(rng, model.width) for turn in range(rng.choice([0, 1, 2, 3, 5, 8]))]
    if rng.random() < 0.5:
        crowd = [thing for thing in crowd if keeps_rules(model, thing)]
    if rng.random() < 0.5:
        crowd = crowd + model.things[:64 - len(crowd)]
    return crowd


def number_up_to(rng, count):
    return rng.choice([rng.randrange(count + 2), count, max(count - 1, 0), 0])


def changing_call(rng, model):
    pick = rng.randrange(11)
    if pick < 2:
        return ("thing", some_set(rng, model.width))
    if pick < 4:
        return ("say", *some_rule(rng, model))
    if pick == 4:
        return ("forget", number_up_to(rng, len(model.rules)))
    if pick < 7:
        return "yes"
    if pick < 9:
        return ("shown", some_set(rng, model.width))
    most = rng.choice([0, 1, 1, 2, 3, 5, 10, 100, 101])
    return ("teach", most, some_crowd(rng, model))


def asking_call(rng, model):
    width = model.width
    calls = [
        "print", "closeds", "base", "ask", "ask",
        ("closed", some_set(rng, width)), ("having", some_set(rng, width)), ("next", some_set(rng, width)),
        ("over", some_set(rng, width)), ("under", some_set(rng, width)),
        ("spare", number_up_to(rng, len(model.things))),
        ("holds", some_set(rng, width), some_set(rng, width)),
        ("rule", number_up_to(rng, len(model.rules))),
        ("follow", some_set(rng, width)),
        ("follows", some_set(rng, width), some_set(rng, width)),
        ("needless", number_up_to(rng, len(model.rules))),
    ]
    return rng.choice(calls)


def beginning_call(rng):
    width = rng.choice([0, 1, 2, 3, 4, 4, 5, 5])
    if rng.random() < 0.2:
        return rng.choice([("new", 17), ("read", "x?\n"), ("read", "")])
    if rng.random() < 0.5:
        return ("new", width)
    things = [rng.randrange(1 << width) for turn in range(rng.choice([1, 2, 3, 4, 6]))]
    return ("read", text_of(width, things))


class AgainstModel(unittest.TestCase):
    def check_line(self, seed, size):
        rng = Random(seed)
        model = Model()
        calls = []
        told = []
        for turn in range(size):
            if turn == 0 or rng.random() < 0.02:
                call = beginning_call(rng)
            elif rng.random() < 0.5:
                call = changing_call(rng, model)
            else:
                call = asking_call(rng, model)
            calls.append(call)
            told.append(model.answer(call))
        self.assertEqual(ask(*calls), told, (seed, calls))
        return told

    def test_lines_of_a_hundred_calls(self):
        for seed in range(200):
            self.check_line(seed, 100)

    def test_short_lines(self):
        for seed in range(1000, 1800):
            self.check_line(seed, 12)


if __name__ == "__main__":
    unittest.main()
