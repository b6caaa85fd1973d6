"""Reading of an item's notes."""

from makeups.characters import (ANGLE_CLOSE, ANGLE_OPEN, BLANK, CLOSE, COMMA, DIGITS, DIVIDED, MINUS, OPEN, PLUS,
                                row_sign)
from makeups.gatherings import CUT, LOST, may_be_cut, partner_state, word_of
from makeups.reader import check
from makeups.rows import MOST_COUNTED, MOST_PLACES, count_leaves, is_counted, is_gathering, leaves_alone


def read_notes(reader, gathering):
    """Reads the notes in ( ) and enters them in the gathering."""
    opening = reader.place
    reader.expect(OPEN)
    rank = read_note(reader, gathering, -1)
    while reader.peek() == COMMA:
        reader.advance()
        reader.expect(BLANK)
        rank = read_note(reader, gathering, rank)
    reader.expect(CLOSE)
    word = word_of(gathering)
    check(len(word) <= MOST_PLACES and count_leaves(word) > 0, opening)


def read_note(reader, gathering, rank_before):
    """Reads a note that must stand behind the rank before; answers its own rank.

    The rank is the note's place in the order gap 0, leaf 1, gap 1, and so on.
    """
    character = reader.peek()
    if character == MINUS:
        return read_leaf_note(reader, gathering, rank_before, LOST)
    if character == DIVIDED:
        return read_leaf_note(reader, gathering, rank_before, CUT)
    return read_gap_note(reader, gathering, rank_before)


def read_leaf_note(reader, gathering, rank_before, state):
    """Reads which leaf is lost or cut."""
    start = reader.place
    reader.advance()
    k = reader.read_number(DIGITS)
    check(1 <= k <= gathering.size, start)
    check(2 * k - 1 > rank_before, start)
    check(may_become(gathering, k, state), start)
    gathering.states[k] = state
    return 2 * k - 1


def may_become(gathering, k, state):
    """Whether leaf k may be lost or cut beside what its partner is."""
    if state == LOST:
        return partner_state(gathering, k) != CUT
    return may_be_cut(gathering, k)


def read_gap_note(reader, gathering, rank_before):
    """Reads what is put in at which gap."""
    start = reader.place
    k = reader.read_number(DIGITS)
    check(k <= gathering.size, start)
    check(2 * k > rank_before, start)
    reader.expect(PLUS)
    if reader.peek() == ANGLE_OPEN:
        gathering.gaps[k] = read_told_row(reader, start)
    else:
        gathering.gaps[k] = read_counted_row(reader, start)
    return 2 * k


def read_counted_row(reader, start):
    """Reads how many leaves alone are put in, for the note that starts there."""
    count = reader.read_number(DIGITS)
    check(1 <= count <= MOST_COUNTED, start)
    return leaves_alone(count)


def read_told_row(reader, start):
    """Reads what is put in sign by sign, for the note that starts there."""
    reader.expect(ANGLE_OPEN)
    row = []
    sign = row_sign(reader.peek())
    while sign > 0:
        row.append(sign)
        reader.advance()
        sign = row_sign(reader.peek())
    reader.expect(ANGLE_CLOSE)
    check(row != [] and is_gathering(row) and not is_counted(row), start)
    return row
