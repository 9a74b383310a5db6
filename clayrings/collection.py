"""What a collection keeps: its seals with all their ages, and its pieces."""

MOST_SEALS = 4
MOST_PIECES = 6
MOST_CUTS = 3


class Seal:
    def __init__(self, ring):
        self.ages = [ring]


class Piece:
    def __init__(self, year, picture):
        self.year = year
        self.picture = picture
        # None, or the [seal, age] that the piece is given to.
        self.given = None


class Collection:
    def __init__(self, high, signs):
        self.high = high
        self.signs = signs
        self.seals = []
        self.pieces = {}
        # Counted apart from the pieces, since no number is used again when a piece is gone.
        self.next_piece = 0


def ring_now(seal):
    return seal.ages[-1]


def has_seal(collection, number):
    return number < len(collection.seals)


def has_piece(collection, number):
    return number in collection.pieces


# The numbers of the pieces that are given to that seal, to any of its ages; rising.
def given_to(collection, seal_number):
    found = []
    for number in sorted(collection.pieces):
        given = collection.pieces[number].given
        if given is not None and given[0] == seal_number:
            found.append(number)
    return found


# The age that a piece which is given to a seal is given to.
def given_age(piece):
    return piece.given[1]
