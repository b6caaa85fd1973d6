"""The calls: what is asked of formulas, and the refusals."""

from makeups.books import (ACCEPTED, NO_FORMULA, TOO_LONG, first_leaf, gathering_of_leaf, gathering_of_signature,
                           is_order, read_book)
from makeups.changes import change_leaf, put_in
from makeups.gatherings import CUT, LOST, word_of
from makeups.reading import signature_of
from makeups.rows import MOST_PLACES, count_leaves, is_gathering, is_leaf, leaf_place, partners_of
from makeups.writing import write_formula

NOT_RIGHT = -1
TOO_MANY_PLACES = -3
NOT_THERE = -4
NOTHING_LEFT = -5

A_STUB = -1


def judge(t):
    """How many gatherings the formula t has; of what is no formula, where it is at fault."""
    book = read_book(t)
    if book.refusal == NO_FORMULA:
        return [NO_FORMULA, book.place]
    if book.refusal != ACCEPTED:
        return [book.refusal]
    return [len(book.gatherings)]


def item(i, t):
    """Sign, times, size, leaves, stubs, first leaf, places and signs of gathering i of the formula t."""
    book = read_book(t)
    if book.refusal != ACCEPTED:
        return [book.refusal]
    if i >= len(book.gatherings):
        return [NOT_THERE]
    return tell_gathering(book.gatherings, i)


def tell_gathering(gatherings, i):
    """What item answers of gathering i, which is there."""
    signature = gatherings[i].signature
    word = word_of(gatherings[i])
    leaves = count_leaves(word)
    answer = [signature[0], signature[1], gatherings[i].size, leaves, len(word) - leaves]
    answer.append(first_leaf(gatherings, i))
    answer.append(len(word))
    answer.extend(word)
    return answer


def find(t, s):
    """Which gathering of the formula t has the signature that the text s tells."""
    book = read_book(t)
    if book.refusal != ACCEPTED:
        return [book.refusal]
    # What is no signature reads as None, which no gathering has.
    i = gathering_of_signature(book.gatherings, signature_of(s))
    if i < 0:
        return [NOT_THERE]
    return [i]


def leaf(l, t):
    """Gathering, number there, place there and partner's number of leaf l of the formula t."""
    book = read_book(t)
    if book.refusal != ACCEPTED:
        return [book.refusal]
    i = gathering_of_leaf(book.gatherings, l)
    if i < 0:
        return [NOT_THERE]
    first = first_leaf(book.gatherings, i)
    word = word_of(book.gatherings[i])
    place = leaf_place(word, l - first)
    return [i, l - first, place, partner_number(word, place, first)]


def partner_number(word, place, first):
    """The number in the book of the leaf's partner, of a word whose first leaf has the number first."""
    partner = partners_of(word)[place]
    if not is_leaf(word[partner]):
        return A_STUB
    return first + count_leaves(word[:partner])


def lose(l, t):
    """The formula t with leaf l lost: how many characters, then these."""
    return answer_change(l, t, LOST)


def cut(l, t):
    """The formula t with leaf l cut: how many characters, then these."""
    return answer_change(l, t, CUT)


def answer_change(l, t, state):
    """What lose and cut answer: the formula of what is left."""
    book = read_book(t)
    if book.refusal != ACCEPTED:
        return [book.refusal]
    i = gathering_of_leaf(book.gatherings, l)
    if i < 0:
        return [NOT_THERE]
    number = l - first_leaf(book.gatherings, i)
    change_leaf(book.gatherings[i], leaf_place(word_of(book.gatherings[i]), number), state)
    left = [gathering for gathering in book.gatherings if count_leaves(word_of(gathering)) > 0]
    if left == []:
        return [NOTHING_LEFT]
    return tell_formula(left)


def put(i, k, t, g):
    """The formula t with g put in at gap k of gathering i: how many characters, then these."""
    book = read_book(t)
    if book.refusal != ACCEPTED:
        return [book.refusal]
    if g == [] or not is_gathering(g):
        return [NOT_RIGHT]
    if i >= len(book.gatherings) or k > book.gatherings[i].size:
        return [NOT_THERE]
    if len(word_of(book.gatherings[i])) + len(g) > MOST_PLACES:
        return [TOO_MANY_PLACES]
    put_in(book.gatherings[i], k, g)
    return tell_formula(book.gatherings)


def bind(t, order):
    """The formula of those gatherings of the formula t in that order: how many characters, then these."""
    book = read_book(t)
    if book.refusal != ACCEPTED:
        return [book.refusal]
    if not is_order(order, len(book.gatherings)):
        return [NOT_RIGHT]
    return tell_formula([book.gatherings[i] for i in order])


def alike(t, u):
    """1 if the formulas t and u tell the same words, gathering by gathering, else 0."""
    books = [read_book(t), read_book(u)]
    # Too long stands before no formula, whichever of the two texts it is.
    for refusal in (TOO_LONG, NO_FORMULA):
        if refusal in [book.refusal for book in books]:
            return [refusal]
    if words_of(books[0].gatherings) == words_of(books[1].gatherings):
        return [1]
    return [0]


def words_of(gatherings):
    """The words of the gatherings, one by one."""
    return [word_of(gathering) for gathering in gatherings]


def tell_formula(gatherings):
    """A formula as it is answered: how many characters, then these."""
    text = write_formula(gatherings)
    return [len(text)] + text
