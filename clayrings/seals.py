"""The calls seal, cut and same."""

from clayrings.collection import MOST_CUTS, MOST_SEALS, Seal, has_seal, ring_now
from clayrings.pictures import are_same, is_ring
from clayrings.refusals import CANNOT_BE, NO_SEAL, SAME_SEAL, TOO_MANY, WRONG


# The numbers of the seals that are the same as the ring now, rising.
def seals_like(collection, ring):
    return [number for number, seal in enumerate(collection.seals) if are_same(ring_now(seal), ring)]


def add_seal(collection, picture):
    if not is_ring(picture, collection.high, collection.signs):
        return [WRONG]
    if len(collection.seals) == MOST_SEALS:
        return [TOO_MANY]
    alike = seals_like(collection, picture)
    if alike:
        return [SAME_SEAL, alike[0]]
    collection.seals.append(Seal(picture))
    return [len(collection.seals) - 1]


# A copy with that sign in that cell; the ring itself stays, as an age.
def recut(ring, column, cell, sign):
    copied = [list(told) for told in ring]
    copied[column][cell] = sign
    return copied


def can_name(collection, ring, column, cell, sign):
    return column < len(ring) and cell < collection.high and sign < collection.signs


def cut_seal(collection, number, column, cell, sign):
    if not has_seal(collection, number):
        return [NO_SEAL]
    seal = collection.seals[number]
    ring = ring_now(seal)
    if not can_name(collection, ring, column, cell, sign):
        return [WRONG]
    if len(seal.ages) > MOST_CUTS:
        return [TOO_MANY]
    if ring[column][cell] == sign:
        return [CANNOT_BE]
    changed = recut(ring, column, cell, sign)
    alike = [other for other in seals_like(collection, changed) if other != number]
    if alike:
        return [SAME_SEAL, alike[0]]
    seal.ages.append(changed)
    return [len(seal.ages) - 1]


def compare_rings(collection, count, picture):
    ring = picture[:count]
    other = picture[count:]
    if not is_ring(ring, collection.high, collection.signs):
        return [WRONG]
    if not is_ring(other, collection.high, collection.signs):
        return [WRONG]
    return [1 if are_same(ring, other) else 0]
