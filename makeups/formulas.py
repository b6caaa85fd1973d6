"""The calls: what is asked of formulas, and the refusals."""

from makeups.gatherings import word_of
from makeups.reader import Fault
from makeups.reading import read_formula
from makeups.rows import count_leaves

MOST_CHARACTERS = 16384

TOO_LONG = -2
NOT_THERE = -4
NO_FORMULA = -6


def judge(t):
    """How many gatherings the formula t has; of what is no formula, where it is at fault."""
    if len(t) > MOST_CHARACTERS:
        return [TOO_LONG]
    try:
        gatherings = read_formula(t)
    except Fault as fault:
        return [NO_FORMULA, fault.place]
    return [len(gatherings)]


def item(i, t):
    """Sign, times, size, leaves, stubs, first leaf, places and signs of gathering i of the formula t."""
    if len(t) > MOST_CHARACTERS:
        return [TOO_LONG]
    try:
        gatherings = read_formula(t)
    except Fault:
        return [NO_FORMULA]
    if i >= len(gatherings):
        return [NOT_THERE]
    return tell_gathering(gatherings, i)


def tell_gathering(gatherings, i):
    """What item answers of gathering i, which is there."""
    signature = gatherings[i].signature
    word = word_of(gatherings[i])
    leaves = count_leaves(word)
    first_leaf = sum([count_leaves(word_of(gathering)) for gathering in gatherings[:i]])
    answer = [signature[0], signature[1], gatherings[i].size, leaves, len(word) - leaves, first_leaf, len(word)]
    answer.extend(word)
    return answer
