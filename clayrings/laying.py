"""The calls least and rebuilt: pieces laid in a ring."""

from clayrings.collection import has_piece
from clayrings.pictures import (
    AS_IT_IS, LONGEST_RING, cells_of, columns_differ, columns_together, places, turned, worn_picture)
from clayrings.refusals import CANNOT_BE, NO_PIECE, WRONG

MOST_LAID = 3


# Pictures that are laid: the ring that their signs make, and where the ones behind the first lie.
# That is told as one list: the second one's way, its column, then the third one's.
class Laying:
    def __init__(self, ring, laid_at):
        self.ring = ring
        self.laid_at = laid_at


# The ring with the picture's signs laid there too, or None if that can't be.
def with_picture(ring, picture, place):
    laid = list(ring)
    for step, column in enumerate(turned(picture, place[0])):
        at = (place[1] + step) % len(laid)
        if columns_differ(laid[at], column):
            return None
        laid[at] = columns_together(laid[at], column)
    return laid


# The first way to lay these pictures too, or None if there's none.
def lay_more(laying, pictures):
    if not pictures:
        return laying
    for place in places(len(laying.ring)):
        ring = with_picture(laying.ring, pictures[0], place)
        if ring is not None:
            found = lay_more(Laying(ring, laying.laid_at + place), pictures[1:])
            if found is not None:
                return found
    return None


# The first way to lay the pictures in a ring of so many columns, or None if there's none.
def lay_in(width, high, pictures):
    ring = with_picture(worn_picture(width, high), pictures[0], [AS_IT_IS, 0])
    if ring is None:
        return None
    return lay_more(Laying(ring, []), pictures[1:])


# The first way to lay the named pieces in the least ring, or None if there's none.
def least_laying(collection, numbers):
    pictures = [collection.pieces[number].picture for number in numbers]
    for width in range(1, LONGEST_RING + 1):
        found = lay_in(width, collection.high, pictures)
        if found is not None:
            return found
    return None


# The refusal that's due for how pieces are named; None if none is.
def naming_refusal(collection, numbers):
    if not 1 <= len(numbers) <= MOST_LAID or len(set(numbers)) != len(numbers):
        return WRONG
    if not all([has_piece(collection, number) for number in numbers]):
        return NO_PIECE
    return None


def find_least(collection, numbers):
    refusal = naming_refusal(collection, numbers)
    if refusal is not None:
        return [refusal]
    laying = least_laying(collection, numbers)
    if laying is None:
        return [CANNOT_BE]
    return [len(laying.ring)] + laying.laid_at


def rebuild(collection, numbers):
    refusal = naming_refusal(collection, numbers)
    if refusal is not None:
        return [refusal]
    laying = least_laying(collection, numbers)
    if laying is None:
        return [CANNOT_BE]
    return [len(laying.ring)] + cells_of(laying.ring)
