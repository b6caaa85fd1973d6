"""Rows of signs: what a gathering holds, place by place."""

ALONE = 1
LEAF_BEFORE = 2
LEAF_BEHIND = 3
STUB_BEFORE = 4
STUB_BEHIND = 5

MOST_PLACES = 21
MOST_COUNTED = 9


def may_be_partners(before, behind):
    """Whether two signs may be paired: a leaf must be among them."""
    return before != STUB_BEFORE or behind != STUB_BEHIND


def is_gathering(row):
    """Whether the row is short enough and its signs are paired."""
    if len(row) > MOST_PLACES:
        return False
    waiting = []
    for sign in row:
        if sign in (LEAF_BEFORE, STUB_BEFORE):
            waiting.append(sign)
        elif sign in (LEAF_BEHIND, STUB_BEHIND):
            if waiting == []:
                return False
            # Pairs never cross, so the partner is the last one that waits.
            if not may_be_partners(waiting.pop(), sign):
                return False
        elif sign != ALONE:
            return False
    return waiting == []


def is_leaf(sign):
    """Whether the sign is a leaf's, not a stub's."""
    return sign in (ALONE, LEAF_BEFORE, LEAF_BEHIND)


def count_leaves(row):
    """How many places of the row hold a leaf."""
    return len([sign for sign in row if is_leaf(sign)])


def leaf_place(row, number):
    """The place of the leaf that has this number among the row's leaves, from 0."""
    return [place for place in range(len(row)) if is_leaf(row[place])][number]


def partners_of(row):
    """For each place of a gathering the place of its partner: its own, if it is alone."""
    partners = list(range(len(row)))
    waiting = []
    for place in range(len(row)):
        if row[place] in (LEAF_BEFORE, STUB_BEFORE):
            waiting.append(place)
        elif row[place] in (LEAF_BEHIND, STUB_BEHIND):
            before = waiting.pop()
            partners[before] = place
            partners[place] = before
    return partners


def leaves_alone(count):
    """A row of so many leaves alone."""
    return [ALONE for k in range(count)]


def is_counted(row):
    """Whether a formula tells the row by how many leaves alone it has."""
    return 1 <= len(row) <= MOST_COUNTED and row == leaves_alone(len(row))


def lose_from(row, place):
    """The gathering with the leaf at the place lost."""
    partner = partners_of(row)[place]
    left = list(row)
    gone = [place]
    if is_leaf(row[partner]):
        # A leaf alone is its own partner, so this changes nothing that stays.
        left[partner] = ALONE
    else:
        gone.append(partner)
    return [left[k] for k in range(len(left)) if k not in gone]


def cut_from(row, place):
    """The gathering with the leaf at the place cut."""
    partner = partners_of(row)[place]
    if partner == place or not is_leaf(row[partner]):
        return lose_from(row, place)
    left = list(row)
    left[place] = STUB_BEFORE if place < partner else STUB_BEHIND
    return left
