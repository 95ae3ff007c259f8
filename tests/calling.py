"""Calls by name, laid out in one list as DOC.md's interface tells, and the answers taken apart."""

from closedbook.book import answers

NUMBERS = {
    "new": 1, "read": 2, "print": 3, "thing": 4, "closed": 5, "having": 6,
    "next": 7, "closeds": 8, "over": 9, "under": 10, "spare": 11, "holds": 12,
    "base": 13, "say": 14, "rule": 15, "forget": 16, "follow": 17, "follows": 18,
    "needless": 19, "ask": 20, "yes": 21, "shown": 22, "teach": 23,
}


def laid_out(calls):
    """Each call is its name or a tuple of its name, whole numbers and rows (texts or lists)."""
    flat = []
    for call in calls:
        if isinstance(call, str):
            call = (call,)
        flat.append(NUMBERS[call[0]])
        for part in call[1:]:
            if isinstance(part, str):
                part = list(part.encode())
            if isinstance(part, list):
                flat.append(len(part))
                flat.extend(part)
            else:
                flat.append(part)
    return flat


def taken_apart(told):
    parts = []
    place = 0
    while place < len(told):
        size = told[place]
        part = told[place + 1:place + 1 + size]
        if size < 1 or len(part) != size:
            raise AssertionError("answers are not laid out as told: %r" % told)
        parts.append(part)
        place += 1 + size
    return parts


def ask(*calls):
    """The answers to the calls on a new book, a list for each."""
    parts = taken_apart(answers(laid_out(calls)))
    if len(parts) != len(calls):
        raise AssertionError("%d calls, %d answers" % (len(calls), len(parts)))
    return parts


def book_of(width, things):
    """The calls that make a book: one that can't be refused and one thing each."""
    return [("new", width)] + [("thing", thing) for thing in things]


def say_all(rules):
    return [("say", premise, conclusion) for premise, conclusion in rules]


def pairs(told):
    """The rules that base answers, as pairs of premise and conclusion."""
    if len(told) != 1 + 2 * told[0]:
        raise AssertionError("not a base: %r" % told)
    return list(zip(told[1::2], told[2::2]))


def text_of(width, things):
    """The things' text, which makes a book by a single call."""
    return "".join(
        "".join("x" if thing >> i & 1 else "." for i in range(width)) + "\n" for thing in things
    )


def ask_of(width, things, *calls):
    """The answers to the calls on the book of these things (one at least)."""
    return ask(("read", text_of(width, things)), *calls)[1:]


class Line:
    """A list of calls that grows, so that a call can be chosen by what was answered before."""

    def __init__(self, *calls):
        self.calls = list(calls)
        self.told = ask(*calls)

    def call(self, *call):
        self.calls.append(call)
        told = ask(*self.calls)
        if told[:-1] != self.told:
            raise AssertionError("earlier answers changed: %r" % self.calls)
        self.told = told
        return told[-1]


# Calls that together show all that a book of at most 1,000 closed sets and without rules holds.
LOOK = ["print", ("closed", 0), ("having", 0), "closeds"]


def look_at(rules):
    """Calls that show the things, and that there are just so many rules, and which."""
    return ["print", ("having", 0)] + [("rule", n) for n in range(rules + 1)]
