"""The calls on one collection, one behind another."""

from clayrings.collection import Collection
from clayrings.giving import claim_age, drop_piece, find_ages, find_seals, tell_cuts
from clayrings.laying import find_least, rebuild
from clayrings.pieces import add_piece, find_fits, join_pieces
from clayrings.reading import Reader, has_more, read_call
from clayrings.refusals import NO_COLLECTION, WRONG
from clayrings.seals import add_seal, compare_rings, cut_seal
from clayrings.showing import look_at, roll, show_now

BEGIN = 0
SEAL = 1
CUT = 2
SAME = 3
PIECE = 4
FITS = 5
LEAST = 6
REBUILT = 7
JOIN = 8
AGES = 9
WHICH = 10
CLAIM = 11
DROP = 12
CUTS = 13
LOOK = 14
NOW = 15
ROLLED = 16


# A call that the program doesn't have.
class UnknownCall(ValueError):
    pass


# Where the collection lies; None while there's none.
class Tray:
    def __init__(self):
        self.collection = None


def begin(tray, high, signs):
    if not 1 <= high <= 3 or not 2 <= signs <= 5:
        return [WRONG]
    tray.collection = Collection(high, signs)
    return [0]


# The calls that give pieces to ages of seals, or only show what's there.
def giving_answer(collection, call):
    numbers = call.numbers
    if call.kind == AGES:
        return find_ages(collection, numbers[0], numbers[1])
    if call.kind == WHICH:
        return find_seals(collection, numbers[0])
    if call.kind == CLAIM:
        return claim_age(collection, numbers[0], numbers[1], numbers[2])
    if call.kind == DROP:
        return drop_piece(collection, numbers[0])
    if call.kind == CUTS:
        return tell_cuts(collection, numbers[0])
    if call.kind == LOOK:
        return look_at(collection, numbers[0])
    if call.kind == NOW:
        return show_now(collection, numbers[0])
    if call.kind == ROLLED:
        return roll(collection, numbers[0], numbers[1], numbers[2], numbers[3], numbers[4])
    raise UnknownCall("there is no such call")


def collection_answer(collection, call):
    numbers = call.numbers
    if call.kind == SEAL:
        return add_seal(collection, call.lists)
    if call.kind == CUT:
        return cut_seal(collection, numbers[0], numbers[1], numbers[2], numbers[3])
    if call.kind == SAME:
        return compare_rings(collection, numbers[0], call.lists)
    if call.kind == PIECE:
        return add_piece(collection, numbers[0], call.lists)
    if call.kind == FITS:
        return find_fits(collection, numbers[0], numbers[1])
    if call.kind == LEAST:
        return find_least(collection, call.lists[0])
    if call.kind == REBUILT:
        return rebuild(collection, call.lists[0])
    if call.kind == JOIN:
        return join_pieces(collection, numbers[0], numbers[1], numbers[2])
    return giving_answer(collection, call)


def answer(tray, call):
    if call.kind == BEGIN:
        return begin(tray, call.numbers[0], call.numbers[1])
    if tray.collection is None:
        return [NO_COLLECTION]
    return collection_answer(tray.collection, call)


def answers(calls):
    reader = Reader(calls)
    tray = Tray()
    told = []
    while has_more(reader):
        numbers = answer(tray, read_call(reader))
        told.append(len(numbers))
        told.extend(numbers)
    return told
