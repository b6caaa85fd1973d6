"""A text as the calls take it: the make-up of a book, or a refusal."""

from makeups.gatherings import word_of
from makeups.reader import Fault
from makeups.reading import MOST_GATHERINGS, read_formula
from makeups.rows import count_leaves

MOST_CHARACTERS = 16384

ACCEPTED = 0
TOO_LONG = -2
NO_FORMULA = -6


class Book:
    """What was read of a text: its gatherings, or why it is refused and where it is at fault."""

    def __init__(self, gatherings, refusal, place):
        self.gatherings = gatherings
        self.refusal = refusal
        self.place = place


def read_book(text):
    """The book that the text tells."""
    if len(text) > MOST_CHARACTERS:
        return Book([], TOO_LONG, -1)
    try:
        gatherings = read_formula(text)
    except Fault as fault:
        return Book([], NO_FORMULA, fault.place)
    return Book(gatherings, ACCEPTED, -1)


def first_leaf(gatherings, i):
    """The number in the book of the first leaf of gathering i."""
    return sum([count_leaves(word_of(gathering)) for gathering in gatherings[:i]])


def gathering_of_leaf(gatherings, number):
    """Which gathering holds the leaf of the book that has this number, or -1."""
    left = number
    for i in range(len(gatherings)):
        left = left - count_leaves(word_of(gatherings[i]))
        if left < 0:
            return i
    return -1


def gathering_of_signature(gatherings, signature):
    """Which gathering has this signature, or -1."""
    for i in range(len(gatherings)):
        if gatherings[i].signature == signature:
            return i
    return -1


def is_order(numbers, count):
    """Whether a make-up may be made of those of count gatherings that have these numbers."""
    if numbers == [] or len(numbers) > MOST_GATHERINGS:
        return False
    seen = {}
    for number in numbers:
        if number >= count or number in seen:
            return False
        seen[number] = True
    return True
