"""Changes of a gathering: a leaf of its word is lost or cut, or something is put in."""

from makeups.gatherings import CUT, LOST, may_be_cut, partner_of, partner_state
from makeups.rows import cut_from, lose_from

ITSELF = -1


def change_leaf(gathering, place, state):
    """Makes the leaf at a place of the gathering's word lost or cut."""
    origin = origins_of(gathering)[place]
    k = origin[0]
    if origin[1] == ITSELF:
        change_own_leaf(gathering, k, state)
    elif state == CUT:
        gathering.gaps[k] = cut_from(gathering.gaps[k], origin[1])
    else:
        gathering.gaps[k] = lose_from(gathering.gaps[k], origin[1])


def origins_of(gathering):
    """For each place of the word where its sign comes from: (k, ITSELF) of leaf k, (k, place there) of gap k."""
    origins = []
    for k in range(gathering.size + 1):
        if k > 0 and gathering.states[k] != LOST:
            origins.append((k, ITSELF))
        origins.extend([(k, place) for place in range(len(gathering.gaps[k]))])
    return origins


def change_own_leaf(gathering, k, state):
    """Makes leaf k, which the size has, lost or cut; it can't be cut beside every partner."""
    if state == CUT and may_be_cut(gathering, k):
        gathering.states[k] = CUT
    else:
        lose_own_leaf(gathering, k)


def lose_own_leaf(gathering, k):
    """Makes leaf k, which the size has, lost, and with it a partner of which a stub alone is left."""
    if partner_state(gathering, k) == CUT:
        gathering.states[partner_of(gathering, k)] = LOST
    gathering.states[k] = LOST


def put_in(gathering, k, row):
    """Puts the row in at gap k, behind what is there."""
    gathering.gaps[k] = gathering.gaps[k] + row
