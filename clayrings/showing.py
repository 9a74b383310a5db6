"""The calls look, now and rolled, which only show what's there."""

from clayrings.collection import given_to, has_piece, has_seal, ring_now
from clayrings.pictures import LONGEST_PIECE, WAYS, cells_of, spellings, turned
from clayrings.refusals import NO_PIECE, NO_SEAL, WRONG


def told_given(piece):
    if piece.given is None:
        return [0]
    return [1] + piece.given


def look_at(collection, number):
    if not has_piece(collection, number):
        return [NO_PIECE]
    piece = collection.pieces[number]
    return [piece.year, len(piece.picture)] + told_given(piece) + cells_of(piece.picture)


def show_now(collection, number):
    if not has_seal(collection, number):
        return [NO_SEAL]
    seal = collection.seals[number]
    ring = ring_now(seal)
    counts = [len(seal.ages) - 1, len(given_to(collection, number)), len(ring)]
    return counts + cells_of(min(spellings(ring)))


def can_roll(seal, age, column, width, way):
    if age >= len(seal.ages) or column >= len(seal.ages[age]):
        return False
    return 1 <= width <= LONGEST_PIECE and way in WAYS


# The ring's columns from that one on, so many of them, round the ring.
def rolled_picture(ring, column, width):
    return [ring[(column + step) % len(ring)] for step in range(width)]


def roll(collection, number, age, column, width, way):
    if not has_seal(collection, number):
        return [NO_SEAL]
    seal = collection.seals[number]
    if not can_roll(seal, age, column, width, way):
        return [WRONG]
    return cells_of(turned(rolled_picture(seal.ages[age], column, width), way))
