"""What a book keeps, and the ways in which it changes."""

from closedbook.order import every_property
from closedbook.stems import base_rules


class Book:
    def __init__(self):
        self.width = 0
        self.things = []
        self.rules = []
        self.base = None
        self.base_known = False


def begin(book, width, things):
    book.width = width
    book.things = things
    book.rules = []
    book.base_known = False


def put_in(book, thing):
    """The new thing's number."""
    book.things.append(thing)
    book.base_known = False
    return len(book.things) - 1


def keep_rule(book, premise, conclusion):
    """The new rule's number."""
    book.rules.append((premise, conclusion))
    return len(book.rules) - 1


def everything_in(book):
    return every_property(book.width)


def goes_beyond(book, subset):
    """Whether the set has properties from m on."""
    return subset >> book.width != 0


def base_in(book):
    """The rules of the base, or None if there are too many closed sets and stems.

    A talk needs them at every question, so they are kept until the things are others.
    """
    if not book.base_known:
        book.base = base_rules(everything_in(book), book.things)
        book.base_known = True
    return book.base
