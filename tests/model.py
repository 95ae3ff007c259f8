"""A book as DOC.md tells it, by trying every set: slow, and apart from the program."""

from functools import lru_cache

from tests import definition
from tests.calling import text_of


@lru_cache(maxsize=None)
def base(width, things):
    return definition.base(width, list(things))


@lru_cache(maxsize=None)
def too_many(width, things):
    return definition.too_many(width, list(things))


class Model:
    """For each call a method that gives back what's answered, as a list."""

    def __init__(self):
        self.width = 0
        self.things = []
        self.rules = []

    def answer(self, call):
        if isinstance(call, str):
            call = (call,)
        return getattr(self, "call_" + call[0])(*call[1:])

    def beyond(self, *subsets):
        return any(subset >= 1 << self.width for subset in subsets)

    def base(self):
        return base(self.width, tuple(self.things))

    def too_many(self):
        return too_many(self.width, tuple(self.things))

    def closeds(self):
        return definition.closed_sets(self.width, self.things)

    def closure(self, subset):
        return definition.closure(self.width, self.things, subset)

    def call_new(self, m):
        if m > 16:
            return [-1]
        self.width, self.things, self.rules = m, [], []
        return [0]

    def call_read(self, text):
        """Only for things' texts, and texts that are wrong by a sign that is neither x nor a point."""
        if text.strip("x.\n") or not text:
            return [-6]
        lines = text.split("\n")[:-1]
        self.width = len(lines[0])
        self.things = [sum(1 << i for i, sign in enumerate(line) if sign == "x") for line in lines]
        self.rules = []
        return [len(lines)]

    def call_print(self):
        text = text_of(self.width, self.things)
        return [len(text)] + list(text.encode())

    def call_thing(self, subset):
        if self.beyond(subset):
            return [-1]
        if len(self.things) == 64:
            return [-2]
        self.things.append(subset)
        return [len(self.things) - 1]

    def call_closed(self, subset):
        return [-1] if self.beyond(subset) else [self.closure(subset)]

    def call_having(self, subset):
        return [-1] if self.beyond(subset) else [sum(definition.has_all(t, subset) for t in self.things)]

    def call_next(self, subset):
        return [-1] if self.beyond(subset) else definition.next_closed(self.closeds(), subset)

    def call_closeds(self):
        listed = self.closeds()
        return [-4] if len(listed) > 1000 else [len(listed)] + listed

    def near(self, subset, pick):
        if self.beyond(subset):
            return [-1]
        if len(self.closeds()) > 1000:
            return [-4]
        found = pick(self.closeds(), self.closure(subset))
        return [len(found)] + found

    def call_over(self, subset):
        return self.near(subset, definition.above)

    def call_under(self, subset):
        return self.near(subset, definition.below)

    def call_spare(self, number):
        if number >= len(self.things):
            return [-1]
        return [int(definition.is_spare(self.width, self.things, number))]

    def call_holds(self, premise, conclusion):
        if self.beyond(premise, conclusion):
            return [-1]
        return [int(definition.holds(self.things, premise, conclusion))]

    def call_base(self):
        if self.too_many():
            return [-4]
        return [len(self.base())] + [subset for rule in self.base() for subset in rule]

    def call_say(self, premise, conclusion):
        if self.beyond(premise, conclusion):
            return [-1]
        if len(self.rules) == 64:
            return [-2]
        self.rules.append((premise, conclusion))
        return [len(self.rules) - 1]

    def call_rule(self, number):
        return [-1] if number >= len(self.rules) else [0, *self.rules[number]]

    def call_forget(self, number):
        if number > len(self.rules):
            return [-1]
        self.rules = self.rules[:number]
        return [0]

    def call_follow(self, subset):
        return [-1] if self.beyond(subset) else [definition.follow(self.width, self.rules, subset)]

    def call_follows(self, premise, conclusion):
        if self.beyond(premise, conclusion):
            return [-1]
        return [int(definition.follows(self.width, self.rules, premise, conclusion))]

    def call_needless(self, number):
        if number >= len(self.rules):
            return [-1]
        return [int(definition.needless(self.width, self.rules, number))]

    def call_ask(self):
        if self.too_many():
            return [-4]
        if self.base()[:len(self.rules)] != self.rules:
            return [-5]
        asked = definition.question(self.width, self.things, self.rules)
        return [0] if asked is None else [1, *asked]

    def call_yes(self):
        asked = self.call_ask()
        if asked[0] < 0:
            return asked
        if asked == [0]:
            return [-3]
        if len(self.rules) == 64:
            return [-2]
        self.rules.append((asked[1], asked[2]))
        return [len(self.rules) - 1]

    def call_shown(self, subset):
        asked = self.call_ask()
        if asked[0] < 0:
            return asked
        if asked == [0]:
            return [-3]
        if not definition.breaks(self.width, self.rules, (asked[1], asked[2]), subset):
            return [-6]
        if len(self.things) == 64:
            return [-2]
        self.things.append(subset)
        return [len(self.things) - 1]

    def call_teach(self, most, crowd):
        if most > 100 or self.beyond(*crowd):
            return [-1]
        count = 0
        while True:
            asked = self.call_ask()
            if asked[0] != 1:
                return [count, {0: 0, -4: 4, -5: 5}[asked[0]]]
            if count == most:
                return [count, 1]
            count += 1
            against = [t for t in crowd if not definition.holds([t], asked[1], asked[2])]
            told = self.call_shown(against[0]) if against else self.call_yes()
            if told[0] < 0:
                return [count, {-2: 2, -6: 3}[told[0]]]
