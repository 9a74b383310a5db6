"""The calls ages, which, claim, drop and cuts: pieces that are given to ages of seals."""

from clayrings.collection import given_age, given_to, has_piece, has_seal
from clayrings.pieces import agreements
from clayrings.refusals import CANNOT_BE, GIVEN, NO_PIECE, NO_SEAL, NOT_IN_ORDER, WRONG

NONE_BEFORE = 0
NONE_BEHIND = 100


def in_order(year, age, other_year, other_age):
    if year < other_year:
        return age <= other_age
    if other_year < year:
        return other_age <= age
    return True


# The other pieces given to the seal with which the piece at that age wouldn't be in order, rising.
def out_of_order(collection, number, seal_number, age):
    year = collection.pieces[number].year
    found = []
    for other_number in given_to(collection, seal_number):
        other = collection.pieces[other_number]
        if other_number != number and not in_order(year, age, other.year, given_age(other)):
            found.append(other_number)
    return found


# The ages of the seal that the piece may be of, rising.
def possible_ages(collection, seal_number, number):
    picture = collection.pieces[number].picture
    found = []
    for age, ring in enumerate(collection.seals[seal_number].ages):
        if agreements(picture, ring) and not out_of_order(collection, number, seal_number, age):
            found.append(age)
    return found


def find_ages(collection, seal_number, number):
    if not has_seal(collection, seal_number):
        return [NO_SEAL]
    if not has_piece(collection, number):
        return [NO_PIECE]
    found = possible_ages(collection, seal_number, number)
    return [len(found)] + found


def find_seals(collection, number):
    if not has_piece(collection, number):
        return [NO_PIECE]
    found = []
    for seal_number in range(len(collection.seals)):
        if possible_ages(collection, seal_number, number):
            found.append(seal_number)
    return [len(found)] + found


# The number of the refusal that's due before the signs are looked at; None if none is.
def claim_refusal(collection, number, seal_number, age):
    if not has_piece(collection, number):
        return NO_PIECE
    if not has_seal(collection, seal_number):
        return NO_SEAL
    if age >= len(collection.seals[seal_number].ages):
        return WRONG
    if collection.pieces[number].given is not None:
        return GIVEN
    return None


def claim_age(collection, number, seal_number, age):
    refusal = claim_refusal(collection, number, seal_number, age)
    if refusal is not None:
        return [refusal]
    piece = collection.pieces[number]
    found = agreements(piece.picture, collection.seals[seal_number].ages[age])
    if not found:
        return [CANNOT_BE]
    others = out_of_order(collection, number, seal_number, age)
    if others:
        return [NOT_IN_ORDER, others[0]]
    piece.given = [seal_number, age]
    return found[0]


def drop_piece(collection, number):
    if not has_piece(collection, number):
        return [NO_PIECE]
    piece = collection.pieces[number]
    given = piece.given
    if given is None:
        return [GIVEN]
    piece.given = None
    return given


# The latest year before the cut that made that age, and the earliest one behind it.
def years_around(pieces, age):
    before = [piece.year for piece in pieces if given_age(piece) < age]
    behind = [piece.year for piece in pieces if given_age(piece) >= age]
    return [max(before, default=NONE_BEFORE), min(behind, default=NONE_BEHIND)]


def tell_cuts(collection, seal_number):
    if not has_seal(collection, seal_number):
        return [NO_SEAL]
    pieces = [collection.pieces[number] for number in given_to(collection, seal_number)]
    last_age = len(collection.seals[seal_number].ages) - 1
    told = [last_age]
    for age in range(1, last_age + 1):
        told.extend(years_around(pieces, age))
    return told
