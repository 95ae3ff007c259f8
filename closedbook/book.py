"""The calls on a book.

Each call's function takes the book and what the call is handed, and gives back the list of what
is answered. A refusal is a list of its one number, given back before anything is changed.
"""

from closedbook.closure import closed_sets, closure, is_spare, next_closed, rule_holds
from closedbook.closure import sets_above, sets_below, things_having
from closedbook.layout import Reader
from closedbook.lines import MOST_THINGS, lines_of_text, text_of_things, thing_of_line
from closedbook.order import MOST_PROPERTIES
from closedbook.refusals import NONE_THERE, NOT_AS_TOLD, NO_ROOM, TOO_MANY, WRONG_NUMBER
from closedbook.rules import MOST_RULES, follow, is_needless, rule_follows
from closedbook.state import Book, base_in, begin, everything_in, goes_beyond, keep_rule, put_in
from closedbook.talk import MOST_QUESTIONS, question, say_yes, show, teach


def any_beyond(book, subsets):
    return any([goes_beyond(book, subset) for subset in subsets])


def closure_in(book, subset):
    return closure(everything_in(book), book.things, subset)


def listed_in(book):
    return closed_sets(everything_in(book), book.things)


def counted(numbers):
    return [len(numbers)] + numbers


def call_new(book, given):
    width = given[0]
    if width > MOST_PROPERTIES:
        return [WRONG_NUMBER]
    begin(book, width, [])
    return [0]


def call_read(book, given):
    lines = lines_of_text(given[0])
    if lines is None:
        return [NOT_AS_TOLD]
    begin(book, len(lines[0]), [thing_of_line(line) for line in lines])
    return [len(lines)]


def call_print(book, given):
    return counted(text_of_things(book.things, book.width))


def call_thing(book, given):
    subset = given[0]
    if goes_beyond(book, subset):
        return [WRONG_NUMBER]
    if len(book.things) >= MOST_THINGS:
        return [NO_ROOM]
    return [put_in(book, subset)]


def call_closed(book, given):
    subset = given[0]
    if goes_beyond(book, subset):
        return [WRONG_NUMBER]
    return [closure_in(book, subset)]


def call_having(book, given):
    subset = given[0]
    if goes_beyond(book, subset):
        return [WRONG_NUMBER]
    return [len(things_having(book.things, subset))]


def call_next(book, given):
    subset = given[0]
    if goes_beyond(book, subset):
        return [WRONG_NUMBER]
    found = next_closed(everything_in(book), book.things, subset)
    if found is None:
        return [NONE_THERE]
    return [found]


def call_closeds(book, given):
    listed = listed_in(book)
    if listed is None:
        return [TOO_MANY]
    return counted(listed)


def neighbours(book, subset, pick):
    """What over and under answer, which differ by the closed sets that pick takes."""
    if goes_beyond(book, subset):
        return [WRONG_NUMBER]
    listed = listed_in(book)
    if listed is None:
        return [TOO_MANY]
    return counted(pick(listed, closure_in(book, subset)))


def call_over(book, given):
    return neighbours(book, given[0], sets_above)


def call_under(book, given):
    return neighbours(book, given[0], sets_below)


def call_spare(book, given):
    number = given[0]
    if number >= len(book.things):
        return [WRONG_NUMBER]
    return [int(is_spare(everything_in(book), book.things, number))]


def call_holds(book, given):
    if any_beyond(book, given):
        return [WRONG_NUMBER]
    return [int(rule_holds(everything_in(book), book.things, given[0], given[1]))]


def call_base(book, given):
    base = base_in(book)
    if base is None:
        return [TOO_MANY]
    told = [len(base)]
    for rule in base:
        told.extend(list(rule))
    return told


def call_say(book, given):
    if any_beyond(book, given):
        return [WRONG_NUMBER]
    if len(book.rules) >= MOST_RULES:
        return [NO_ROOM]
    return [keep_rule(book, given[0], given[1])]


def call_rule(book, given):
    number = given[0]
    if number >= len(book.rules):
        return [WRONG_NUMBER]
    return [0] + list(book.rules[number])


def call_forget(book, given):
    number = given[0]
    if number > len(book.rules):
        return [WRONG_NUMBER]
    book.rules = book.rules[:number]
    return [0]


def call_follow(book, given):
    subset = given[0]
    if goes_beyond(book, subset):
        return [WRONG_NUMBER]
    return [follow(book.rules, subset)]


def call_follows(book, given):
    if any_beyond(book, given):
        return [WRONG_NUMBER]
    return [int(rule_follows(book.rules, given[0], given[1]))]


def call_needless(book, given):
    number = given[0]
    if number >= len(book.rules):
        return [WRONG_NUMBER]
    return [int(is_needless(book.rules, number))]


def call_ask(book, given):
    return question(book)


def call_yes(book, given):
    return say_yes(book)


def call_shown(book, given):
    return show(book, given[0])


def call_teach(book, given):
    most = given[0]
    crowd = given[1]
    if most > MOST_QUESTIONS or any_beyond(book, crowd):
        return [WRONG_NUMBER]
    return teach(book, most, crowd)


CALLS = {
    1: call_new,
    2: call_read,
    3: call_print,
    4: call_thing,
    5: call_closed,
    6: call_having,
    7: call_next,
    8: call_closeds,
    9: call_over,
    10: call_under,
    11: call_spare,
    12: call_holds,
    13: call_base,
    14: call_say,
    15: call_rule,
    16: call_forget,
    17: call_follow,
    18: call_follows,
    19: call_needless,
    20: call_ask,
    21: call_yes,
    22: call_shown,
    23: call_teach,
}


def answers(calls):
    """What is answered to the calls on a new book, each answer behind how many numbers it has."""
    book = Book()
    reader = Reader(calls)
    told = []
    while not reader.at_end():
        call = reader.take_number()
        given = reader.take_given(call)
        told.extend(counted(CALLS[call](book, given)))
    return told
