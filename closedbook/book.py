"""The book and the calls on it.

Each call's function takes the book and what the call is handed, and gives back the list of what
is answered. A refusal is a list of its one number, given back before anything is changed.
"""

from closedbook.closure import closed_sets, closure, is_spare, next_closed, rule_holds
from closedbook.closure import sets_above, sets_below, things_having
from closedbook.layout import Reader
from closedbook.lines import MOST_THINGS, lines_of_text, text_of_things, thing_of_line
from closedbook.order import MOST_PROPERTIES, every_property

WRONG_NUMBER = -1
NO_ROOM = -2
NONE_THERE = -3
TOO_MANY = -4
WRONG_FORM = -6


class Book:
    def __init__(self):
        self.width = 0
        self.things = []


def begin(book, width, things):
    book.width = width
    book.things = things


def everything_in(book):
    return every_property(book.width)


def goes_beyond(book, subset):
    """Whether the set has properties from m on."""
    return subset >> book.width != 0


def closure_in(book, subset):
    return closure(everything_in(book), book.things, subset)


def listed_in(book):
    return closed_sets(everything_in(book), book.things)


def counted(numbers):
    return [len(numbers)] + numbers


def call_new(book, given):
    width = given[0]
    if width > MOST_PROPERTIES:
        return [WRONG_NUMBER]
    begin(book, width, [])
    return [0]


def call_read(book, given):
    lines = lines_of_text(given[0])
    if lines is None:
        return [WRONG_FORM]
    begin(book, len(lines[0]), [thing_of_line(line) for line in lines])
    return [len(lines)]


def call_print(book, given):
    return counted(text_of_things(book.things, book.width))


def call_thing(book, given):
    subset = given[0]
    if goes_beyond(book, subset):
        return [WRONG_NUMBER]
    if len(book.things) >= MOST_THINGS:
        return [NO_ROOM]
    book.things.append(subset)
    return [len(book.things) - 1]


def call_closed(book, given):
    subset = given[0]
    if goes_beyond(book, subset):
        return [WRONG_NUMBER]
    return [closure_in(book, subset)]


def call_having(book, given):
    subset = given[0]
    if goes_beyond(book, subset):
        return [WRONG_NUMBER]
    return [len(things_having(book.things, subset))]


def call_next(book, given):
    subset = given[0]
    if goes_beyond(book, subset):
        return [WRONG_NUMBER]
    found = next_closed(everything_in(book), book.things, subset)
    if found is None:
        return [NONE_THERE]
    return [found]


def call_closeds(book, given):
    listed = listed_in(book)
    if listed is None:
        return [TOO_MANY]
    return counted(listed)


def neighbours(book, subset, pick):
    """What over and under answer, which differ by the closed sets that pick takes."""
    if goes_beyond(book, subset):
        return [WRONG_NUMBER]
    listed = listed_in(book)
    if listed is None:
        return [TOO_MANY]
    return counted(pick(listed, closure_in(book, subset)))


def call_over(book, given):
    return neighbours(book, given[0], sets_above)


def call_under(book, given):
    return neighbours(book, given[0], sets_below)


def call_spare(book, given):
    number = given[0]
    if number >= len(book.things):
        return [WRONG_NUMBER]
    return [int(is_spare(everything_in(book), book.things, number))]


def call_holds(book, given):
    premise = given[0]
    conclusion = given[1]
    if goes_beyond(book, premise) or goes_beyond(book, conclusion):
        return [WRONG_NUMBER]
    return [int(rule_holds(everything_in(book), book.things, premise, conclusion))]


CALLS = {
    1: call_new,
    2: call_read,
    3: call_print,
    4: call_thing,
    5: call_closed,
    6: call_having,
    7: call_next,
    8: call_closeds,
    9: call_over,
    10: call_under,
    11: call_spare,
    12: call_holds,
}


def answers(calls):
    """What is answered to the calls on a new book, each answer behind how many numbers it has."""
    book = Book()
    reader = Reader(calls)
    told = []
    while not reader.at_end():
        call = reader.take_number()
        given = reader.take_given(call)
        told.extend(counted(CALLS[call](book, given)))
    return told
