"""Reading of a formula, item by item, into the gatherings of its make-up."""

from makeups.characters import BLANK, DASH, DIGITS, OPEN, RAISED_DIGITS, position, signature_sign
from makeups.gatherings import MOST_TIMES, Gathering, are_one_item, is_size, signature_behind
from makeups.notes import read_notes
from makeups.reader import END, Fault, Reader, check

MOST_GATHERINGS = 48


def read_formula(text):
    """The gatherings that the formula tells; raises Fault if the text is no formula."""
    reader = Reader(text)
    gatherings = read_item(reader, [])
    while reader.peek() != END:
        reader.expect(BLANK)
        gatherings.extend(read_item(reader, gatherings))
    return gatherings


def read_item(reader, before):
    """Reads an item behind the gatherings before it; answers its own gatherings."""
    start = reader.place
    signatures = read_signatures(reader, [gathering.signature for gathering in before])
    size = read_size(reader)
    own = [Gathering(signature, size) for signature in signatures]
    if reader.peek() == OPEN:
        check(len(own) == 1, reader.place)
        read_notes(reader, own[0])
    else:
        check(before == [] or not are_one_item(before[-1], own[0]), start)
    return own


def read_signatures(reader, taken):
    """Reads one signature, or two with a dash between; answers all that the item has."""
    start = reader.place
    first = read_signature(reader)
    check(is_free(first, taken), start)
    if reader.peek() != DASH:
        return [first]
    reader.advance()
    start = reader.place
    last = read_signature(reader)
    return signatures_from(first, last, taken, start)


def signatures_from(first, last, taken, start):
    """The signatures from the first to the last, which is told from start on and comes behind it."""
    own = [first]
    while len(own) == 1 or own[-1] != last:
        signature = signature_behind(own[-1])
        check(signature is not None and is_free(signature, taken + own), start)
        own.append(signature)
    return own


def is_free(signature, taken):
    """Whether one more gathering may have this signature."""
    return signature not in taken and len(taken) < MOST_GATHERINGS


def read_signature(reader):
    """Reads a signature: (sign, times)."""
    start = reader.place
    told = position(DIGITS, reader.peek()) >= 0
    times = reader.read_number(DIGITS) if told else 1
    sign = signature_sign(reader.peek())
    check(sign >= 0, reader.place)
    reader.advance()
    # Once is never told, and how many times is looked at behind the sign only.
    check(not told or 2 <= times <= MOST_TIMES, start)
    return (sign, times)


def signature_of(text):
    """The signature that the whole text tells, or None."""
    reader = Reader(text)
    try:
        signature = read_signature(reader)
    except Fault:
        return None
    return signature if reader.peek() == END else None


def read_size(reader):
    """Reads a size in raised digits."""
    start = reader.place
    size = reader.read_number(RAISED_DIGITS)
    check(is_size(size), start)
    return size
