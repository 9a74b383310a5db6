"""The calls piece, fits and join."""

from clayrings.collection import MOST_PIECES, Piece, has_piece, has_seal
from clayrings.pictures import (
    LONGEST_PIECE, cells_differ, columns_differ, columns_together, is_piece, places, turned, worn_picture)
from clayrings.refusals import GIVEN, NO_PIECE, NO_SEAL, SIGNS_DIFFER, TOO_MANY, WRONG, YEARS_DIFFER


def add_piece(collection, year, picture):
    if not 1 <= year <= 99 or not is_piece(picture, collection.high, collection.signs):
        return [WRONG]
    if len(collection.pieces) == MOST_PIECES:
        return [TOO_MANY]
    number = collection.next_piece
    collection.pieces[number] = Piece(year, picture)
    collection.next_piece = number + 1
    return [number]


def agrees(picture, ring, place):
    told = turned(picture, place[0])
    for step, column in enumerate(told):
        if columns_differ(column, ring[(place[1] + step) % len(ring)]):
            return False
    return True


# Each [way, column] at which the picture agrees with the ring, the first one first.
def agreements(picture, ring):
    return [place for place in places(len(ring)) if agrees(picture, ring, place)]


def find_fits(collection, seal_number, piece_number):
    if not has_seal(collection, seal_number):
        return [NO_SEAL]
    if not has_piece(collection, piece_number):
        return [NO_PIECE]
    picture = collection.pieces[piece_number].picture
    found = []
    for age, ring in enumerate(collection.seals[seal_number].ages):
        for place in agreements(picture, ring):
            found.append([age] + place)
    if not found:
        return [0]
    return [len(found)] + found[0]


# The picture from that column on, among worn columns.
def spread(picture, start, width, high):
    end = start + len(picture)
    return worn_picture(start, high) + picture + worn_picture(width - end, high)


# The first [column, cell] in which the two have different signs; [] if there is none.
def first_difference(picture, other):
    for column, cells in enumerate(picture):
        for cell, sign in enumerate(cells):
            if cells_differ(sign, other[column][cell]):
                return [column, cell]
    return []


# The number of the refusal that's due before the signs are looked at; None if none is.
def join_refusal(piece, other, start, width):
    if start < 0 or width > LONGEST_PIECE:
        return WRONG
    if piece.given is not None or other.given is not None:
        return GIVEN
    if piece.year != other.year:
        return YEARS_DIFFER
    return None


def join_pieces(collection, number, other_number, gap):
    if not has_piece(collection, number) or not has_piece(collection, other_number):
        return [NO_PIECE]
    if number == other_number:
        return [WRONG]
    piece = collection.pieces[number]
    other = collection.pieces[other_number]
    start = len(piece.picture) + gap
    width = max(len(piece.picture), start + len(other.picture))
    refusal = join_refusal(piece, other, start, width)
    if refusal is not None:
        return [refusal]
    left = spread(piece.picture, 0, width, collection.high)
    right = spread(other.picture, start, width, collection.high)
    difference = first_difference(left, right)
    if difference:
        return [SIGNS_DIFFER] + difference
    piece.picture = [columns_together(column, beside) for column, beside in zip(left, right)]
    collection.pieces.pop(other_number)
    return [width]
