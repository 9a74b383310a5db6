"""The numbers that a refused call answers."""

WRONG = -1
NO_SEAL = -2
NO_PIECE = -3
SAME_SEAL = -4
TOO_MANY = -5
CANNOT_BE = -6
NOT_IN_ORDER = -7
# drop tells the same number where the piece isn't given to a seal.
GIVEN = -8
NO_COLLECTION = -9
YEARS_DIFFER = -10
SIGNS_DIFFER = -11
