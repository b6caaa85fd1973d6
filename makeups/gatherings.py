"""The gatherings of a make-up: signature, size, what is lost, cut and put in."""

from makeups.rows import ALONE, LEAF_BEFORE, LEAF_BEHIND, STUB_BEFORE, STUB_BEHIND

WHOLE = 0
LOST = 1
CUT = 2

FIRST_SMALL_SIGN = 23
FIRST_OTHER_SIGN = 46
LETTERS_OF_A_KIND = 23
MOST_TIMES = 99
MOST_SIZE = 20


class Gathering:
    """One gathering of a make-up; without notes until it is given some."""

    def __init__(self, signature, size):
        self.signature = signature
        self.size = size
        # Leaves are numbered from 1: what stands at 0 is never asked for.
        self.states = [WHOLE for k in range(size + 1)]
        self.gaps = [[] for k in range(size + 1)]


def signature_behind(signature):
    """The signature (sign, times) that comes behind this one, or None."""
    sign = signature[0]
    times = signature[1]
    if sign >= FIRST_OTHER_SIGN:
        return None
    if sign not in (FIRST_SMALL_SIGN - 1, FIRST_OTHER_SIGN - 1):
        return (sign + 1, times)
    if times == MOST_TIMES:
        return None
    return (sign + 1 - LETTERS_OF_A_KIND, times + 1)


def is_size(number):
    """Whether a gathering may be meant to have so many leaves."""
    return number == 1 or (2 <= number <= MOST_SIZE and number % 2 == 0)


def has_notes(gathering):
    """Whether a leaf is lost or cut, or something is put in."""
    return any([state != WHOLE for state in gathering.states]) or any([row != [] for row in gathering.gaps])


def are_one_item(before, behind):
    """Whether two gatherings, one behind the other, stand in one item of the formula."""
    if has_notes(before) or has_notes(behind) or before.size != behind.size:
        return False
    return signature_behind(before.signature) == behind.signature


def partner_of(gathering, k):
    """The partner of leaf k (of size 1: itself)."""
    return gathering.size + 1 - k


def partner_state(gathering, k):
    """Whether the partner of leaf k is whole, lost or cut (of size 1: itself)."""
    return gathering.states[partner_of(gathering, k)]


def may_be_cut(gathering, k):
    """Whether a whole leaf k leaves a stub when it is cut."""
    return gathering.size > 1 and partner_state(gathering, k) == WHOLE


def leaf_row(gathering, k):
    """What leaf k leaves in the word: one sign, or none if it is lost."""
    state = gathering.states[k]
    before = 2 * k <= gathering.size
    if state == LOST:
        return []
    if state == CUT:
        return [STUB_BEFORE if before else STUB_BEHIND]
    if gathering.size == 1 or partner_state(gathering, k) == LOST:
        return [ALONE]
    return [LEAF_BEFORE if before else LEAF_BEHIND]


def word_of(gathering):
    """The gathering's word: a row of signs."""
    row = list(gathering.gaps[0])
    for k in range(1, gathering.size + 1):
        row.extend(leaf_row(gathering, k))
        row.extend(gathering.gaps[k])
    return row
