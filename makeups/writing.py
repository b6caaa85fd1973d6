"""Writing of a make-up's formula, item by item."""

from makeups.characters import (ANGLE_CLOSE, ANGLE_OPEN, BLANK, CLOSE, COMMA, DASH, DIGITS, DIVIDED, MINUS, OPEN, PLUS,
                                RAISED_DIGITS, row_character, signature_character)
from makeups.gatherings import CUT, LOST, are_one_item, has_notes
from makeups.rows import is_counted


def write_formula(gatherings):
    """The formula of the make-up."""
    items = []
    start = 0
    while start < len(gatherings):
        end = item_end(gatherings, start)
        items.append(write_item(gatherings[start:end]))
        start = end
    return join_texts(items, [BLANK])


def join_texts(texts, between):
    """The texts one behind another, with something between each two."""
    joined = []
    for k in range(len(texts)):
        if k > 0:
            joined.extend(between)
        joined.extend(texts[k])
    return joined


def item_end(gatherings, start):
    """The number of the first gathering behind the item that begins at start."""
    end = start + 1
    while end < len(gatherings) and are_one_item(gatherings[end - 1], gatherings[end]):
        end = end + 1
    return end


def write_item(gatherings):
    """The item of these gatherings, which stand in one."""
    text = write_signature(gatherings[0].signature)
    if len(gatherings) > 1:
        text.append(DASH)
        text.extend(write_signature(gatherings[-1].signature))
    text.extend(write_number(gatherings[0].size, RAISED_DIGITS))
    if has_notes(gatherings[0]):
        text.append(OPEN)
        text.extend(join_texts(write_notes(gatherings[0]), [COMMA, BLANK]))
        text.append(CLOSE)
    return text


def write_signature(signature):
    """How many times, if more than once, and the sign."""
    text = []
    if signature[1] > 1:
        text.extend(write_number(signature[1], DIGITS))
    text.append(signature_character(signature[0]))
    return text


def write_number(number, digits):
    """The number in these ten digits."""
    text = [digits[number % 10]]
    rest = number // 10
    while rest > 0:
        text.insert(0, digits[rest % 10])
        rest = rest // 10
    return text


def write_notes(gathering):
    """The texts of the gathering's notes, in the order of their places."""
    notes = []
    for k in range(gathering.size + 1):
        if gathering.states[k] == LOST:
            notes.append([MINUS] + write_number(k, DIGITS))
        if gathering.states[k] == CUT:
            notes.append([DIVIDED] + write_number(k, DIGITS))
        if gathering.gaps[k] != []:
            notes.append(write_number(k, DIGITS) + [PLUS] + write_row(gathering.gaps[k]))
    return notes


def write_row(row):
    """What is put in: counted, or told sign by sign."""
    if is_counted(row):
        return write_number(len(row), DIGITS)
    return [ANGLE_OPEN] + [row_character(sign) for sign in row] + [ANGLE_CLOSE]
