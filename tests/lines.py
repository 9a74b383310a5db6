"""Writing calls as lists of numbers, and reading their answers."""

from clayrings.trays import answers


def begin(high, signs):
    return [0, 2, high, signs, 0]


def with_lists(lists):
    told = [len(lists)]
    for numbers in lists:
        told += [len(numbers)] + list(numbers)
    return told


def seal(picture):
    return [1, 0] + with_lists(picture)


def cut(number, column, cell, sign):
    return [2, 4, number, column, cell, sign, 0]


def same(count, picture):
    return [3, 1, count] + with_lists(picture)


def piece(year, picture):
    return [4, 1, year] + with_lists(picture)


def fits(seal_number, piece_number):
    return [5, 2, seal_number, piece_number, 0]


def least(*numbers):
    return [6, 0] + with_lists([numbers])


def rebuilt(*numbers):
    return [7, 0] + with_lists([numbers])


def join(number, other_number, gap):
    return [8, 3, number, other_number, gap, 0]


def ages(seal_number, piece_number):
    return [9, 2, seal_number, piece_number, 0]


def which(number):
    return [10, 1, number, 0]


def claim(piece_number, seal_number, age):
    return [11, 3, piece_number, seal_number, age, 0]


def drop(number):
    return [12, 1, number, 0]


def cuts(number):
    return [13, 1, number, 0]


def look(number):
    return [14, 1, number, 0]


def now(number):
    return [15, 1, number, 0]


def rolled(number, age, column, columns, way):
    return [16, 5, number, age, column, columns, way, 0]


def low(*signs):
    """A picture that's one cell high."""
    return [[sign] for sign in signs]


def line(*calls):
    told = []
    for call in calls:
        told += call
    return told


def split(told):
    """The answers one by one, without how many numbers each has."""
    found = []
    at = 0
    while at < len(told):
        end = at + 1 + told[at]
        found.append(told[at + 1:end])
        at = end
    return found


def run(*calls):
    return split(answers(line(*calls)))


def last(*calls):
    return run(*calls)[-1]
