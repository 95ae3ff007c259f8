"""The talk: the question, yes, what is shown, and being taught by a crowd.

As in the calls, what is answered is a list, and a refusal a list of its one number.
"""

from closedbook.lines import MOST_THINGS
from closedbook.refusals import NONE_THERE, NOT_AS_TOLD, NOT_FIRST_ONES, NO_ROOM, TOO_MANY
from closedbook.rules import MOST_RULES, holds_of
from closedbook.state import base_in, goes_beyond, keep_rule, put_in

MOST_QUESTIONS = 100

NOTHING_LEFT = 0
ASKED = 1

END_NOTHING_LEFT = 0
END_ONE_MORE = 1
END_NO_ROOM = 2
END_NOT_BROKEN = 3
END_TOO_MANY = 4
END_NOT_FIRST_ONES = 5


def question(book):
    """1, premise and conclusion; or 0 if there is nothing left to ask.

    The question is the base's next rule: the set that it is about has the closure of every stem
    within it, as else such a stem, which comes ahead of it, would be asked for first.
    """
    base = base_in(book)
    if base is None:
        return [TOO_MANY]
    kept = len(book.rules)
    if base[:kept] != book.rules:
        return [NOT_FIRST_ONES]
    if kept == len(base):
        return [NOTHING_LEFT]
    return [ASKED, base[kept][0], base[kept][1]]


def question_to_answer(book):
    """As the question, but that nothing left to ask is a refusal too."""
    told = question(book)
    if told[0] == NOTHING_LEFT:
        return [NONE_THERE]
    return told


def say_yes(book):
    told = question_to_answer(book)
    if told[0] != ASKED:
        return told
    if len(book.rules) >= MOST_RULES:
        return [NO_ROOM]
    return [keep_rule(book, told[1], told[2])]


def breaks(book, subset, premise, conclusion):
    """Whether the set is a thing that breaks the rule while all rules that are kept hold of it."""
    if goes_beyond(book, subset) or holds_of(subset, premise, conclusion):
        return False
    return all([holds_of(subset, rule[0], rule[1]) for rule in book.rules])


def show(book, subset):
    told = question_to_answer(book)
    if told[0] != ASKED:
        return told
    if not breaks(book, subset, told[1], told[2]):
        return [NOT_AS_TOLD]
    if len(book.things) >= MOST_THINGS:
        return [NO_ROOM]
    return [put_in(book, subset)]


def answer_by(book, crowd, premise, conclusion):
    """Answers the question, which is this rule, as the crowd does."""
    breaking = [subset for subset in crowd if not holds_of(subset, premise, conclusion)]
    if len(breaking) == 0:
        return say_yes(book)
    return show(book, breaking[0])


def end_without_answer(told):
    """How being taught ends where the question stays as it was told."""
    if told == TOO_MANY:
        return END_TOO_MANY
    if told == NOT_FIRST_ONES:
        return END_NOT_FIRST_ONES
    if told == NOTHING_LEFT:
        return END_NOTHING_LEFT
    return END_ONE_MORE


def teach(book, most, crowd):
    """How many questions were asked, and how it ended."""
    asked = 0
    told = question(book)
    while told[0] == ASKED and asked < most:
        asked = asked + 1
        answered = answer_by(book, crowd, told[1], told[2])
        if answered[0] == NO_ROOM:
            return [asked, END_NO_ROOM]
        if answered[0] == NOT_AS_TOLD:
            return [asked, END_NOT_BROKEN]
        told = question(book)
    return [asked, end_without_answer(told[0])]
