"""Pictures: lists of columns from the left, each a list of cells from the top.

No function here changes a picture that it is handed; so pictures may be shared.
"""

WORN = 9
AS_IT_IS = 0
WAYS = (0, 1)
LONGEST_RING = 8
LONGEST_PIECE = 12


def is_column(column, high, allowed):
    return len(column) == high and all([cell in allowed for cell in column])


def has_form(picture, longest, high, allowed):
    if not 1 <= len(picture) <= longest:
        return False
    return all([is_column(column, high, allowed) for column in picture])


def is_ring(picture, high, signs):
    return has_form(picture, LONGEST_RING, high, list(range(signs)))


def is_piece(picture, high, signs):
    return has_form(picture, LONGEST_PIECE, high, list(range(signs)) + [WORN])


# The picture as it is told in that way.
def turned(picture, way):
    if way == AS_IT_IS:
        return picture
    return [list(reversed(column)) for column in reversed(picture)]


def spellings(ring):
    found = []
    for way in WAYS:
        told = turned(ring, way)
        for start in range(len(told)):
            found.append(told[start:] + told[:start])
    return found


def are_same(ring, other):
    return other in spellings(ring)


# Each [way, column] in a ring of so many columns, in the order in which the first one counts.
def places(width):
    found = []
    for way in WAYS:
        for column in range(width):
            found.append([way, column])
    return found


def cells_differ(cell, other):
    return cell != WORN and other != WORN and cell != other


def columns_differ(column, other):
    return any([cells_differ(cell, beside) for cell, beside in zip(column, other)])


# The signs of both; where both have one it must be the same.
def columns_together(column, other):
    return [beside if cell == WORN else cell for cell, beside in zip(column, other)]


def worn_picture(width, high):
    return [[WORN] * high for column in range(width)]


def cells_of(picture):
    cells = []
    for column in picture:
        cells.extend(column)
    return cells
