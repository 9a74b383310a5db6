"""least and rebuilt."""

import itertools
import random
import unittest

from tests.lines import begin, join, last, least, low, piece, rebuilt, run, seal


def both(high, signs, *pictures):
    numbers = range(len(pictures))
    told = run(begin(high, signs), *[piece(1, picture) for picture in pictures], least(*numbers), rebuilt(*numbers))
    return told[-2:]


class OnePieceTest(unittest.TestCase):
    def test_the_least_ring(self):
        self.assertEqual(both(1, 5, low(0)), [[1], [1, 0]])
        self.assertEqual(both(1, 5, low(0, 0, 0)), [[1], [1, 0]])
        self.assertEqual(both(1, 5, low(0, 1, 0, 1, 0)), [[2], [2, 0, 1]])
        self.assertEqual(both(1, 5, low(0, 1, 1, 0)), [[3], [3, 0, 1, 1]])
        self.assertEqual(both(3, 5, [[0, 1, 2], [3, 4, 0]]), [[2], [2, 0, 1, 2, 3, 4, 0]])

    def test_worn_cells_are_filled_from_farther_on(self):
        self.assertEqual(both(1, 5, low(0, 9, 0, 1)), [[2], [2, 0, 1]])
        self.assertEqual(both(2, 5, [[0, 9], [1, 9], [9, 2]]), [[2], [2, 0, 2, 1, 9]])

    def test_worn_wholly(self):
        self.assertEqual(both(1, 2, low(9)), [[1], [1, 9]])
        self.assertEqual(both(3, 2, [[9, 9, 9]] * 12), [[1], [1, 9, 9, 9]])

    def test_twelve_columns(self):
        self.assertEqual(both(1, 5, low(*[0, 1, 2] * 4)), [[3], [3, 0, 1, 2]])
        self.assertEqual(both(1, 2, low(0, 0, 0, 0, 0, 0, 0, 1, 0, 0, 0, 0)), [[8], [8, 0, 0, 0, 0, 0, 0, 0, 1]])

    def test_there_is_none(self):
        self.assertEqual(both(1, 2, low(0, 0, 0, 0, 0, 0, 0, 0, 1)), [[-6], [-6]])
        self.assertEqual(both(1, 2, low(0, 0, 0, 0, 9, 9, 9, 0, 1)), [[-6], [-6]])
        self.assertEqual(both(1, 2, low(0, 9, 9, 9, 9, 9, 9, 9, 1)), [[3], [3, 0, 9, 1]])

    def test_it_lies_as_it_is_from_column_0_on(self):
        self.assertEqual(both(2, 5, [[4, 3], [0, 1]]), [[2], [2, 4, 3, 0, 1]])


class SeveralPiecesTest(unittest.TestCase):
    def test_two_that_lie_on_one_another(self):
        self.assertEqual(both(1, 5, low(0, 1, 2), low(1, 2)), [[3, 0, 1], [3, 0, 1, 2]])
        self.assertEqual(both(1, 5, low(0, 1, 2), low(2, 3)), [[4, 0, 2], [4, 0, 1, 2, 3]])
        self.assertEqual(both(1, 5, low(0, 1, 2), low(3, 0)), [[4, 0, 3], [4, 0, 1, 2, 3]])

    def test_only_upside_down(self):
        self.assertEqual(both(1, 5, low(0, 1, 2), low(2, 1)), [[3, 1, 1], [3, 0, 1, 2]])
        self.assertEqual(both(2, 5, [[0, 1], [2, 3]], [[3, 2], [1, 0]]), [[2, 1, 0], [2, 0, 1, 2, 3]])
        self.assertEqual(both(2, 5, [[0, 1]], [[1, 0]]), [[1, 1, 0], [1, 0, 1]])

    def test_the_way_counts_ahead_of_the_column(self):
        # Upside down the second one could lie from column 0 on.
        self.assertEqual(both(1, 5, low(1, 0, 0, 1, 2), low(0, 1))[0], [5, 0, 2])
        self.assertEqual(both(1, 5, low(0, 1), low(9, 0)), [[2, 0, 1], [2, 0, 1]])

    def test_the_order_in_which_they_are_named(self):
        start = [begin(1, 5), piece(1, low(0, 1, 2)), piece(2, low(2, 3)), piece(3, low(3, 4))]
        told = run(*start, least(0, 1, 2), rebuilt(0, 1, 2), least(2, 1, 0), rebuilt(2, 1, 0), rebuilt(1, 2, 0))
        self.assertEqual(told[4:], [
            [5, 0, 2, 0, 3], [5, 0, 1, 2, 3, 4],
            [5, 0, 4, 0, 2], [5, 3, 4, 0, 1, 2],
            [5, 2, 3, 4, 0, 1]])

    def test_the_third_one_makes_the_second_one_lie_elsewhere(self):
        # In three columns the second one could lie from column 1 on, but not with the third one.
        self.assertEqual(both(2, 5, [[0, 1], [9, 9]], [[2, 9]], [[2, 4], [0, 1], [4, 3]]),
                         [[3, 0, 2, 0, 2], [3, 0, 1, 4, 3, 2, 4]])

    def test_the_second_ones_place_counts_ahead_of_the_third_ones(self):
        # As it is the third one could lie from column 0 on, with the second one farther on.
        self.assertEqual(both(1, 5, low(0, 9, 9), low(9, 2), low(0, 1, 2)), [[3, 0, 0, 1, 1], [3, 0, 2, 1]])
        self.assertEqual(both(1, 5, low(0, 9, 9), low(1), low(2)), [[3, 0, 1, 0, 2], [3, 0, 1, 2]])
        self.assertEqual(both(2, 5, [[0, 1], [9, 9]], [[2, 9]], [[2, 3]]), [[2, 0, 1, 0, 1], [2, 0, 1, 2, 3]])
        self.assertEqual(both(2, 5, [[0, 1], [9, 9]], [[2, 9]], [[3, 4]]), [[3, 0, 1, 0, 2], [3, 0, 1, 2, 9, 3, 4]])

    def test_a_larger_ring_than_two_of_them_need(self):
        told = run(begin(1, 3), piece(1, low(0, 1)), piece(1, low(1, 0)), piece(1, low(2, 2)),
                   least(0, 1), least(0, 1, 2), rebuilt(0, 1, 2), least(1), least(2))
        self.assertEqual(told[4:], [[2, 0, 1], [4, 1, 0, 0, 2], [4, 0, 1, 2, 2], [2], [1]])

    def test_cells_that_none_covers_are_worn(self):
        self.assertEqual(both(2, 3, [[0, 9], [9, 1]], [[2, 2], [9, 9]]), [[3, 0, 2], [3, 0, 9, 9, 1, 2, 2]])

    def test_worn_wholly_beside_others(self):
        self.assertEqual(both(1, 2, low(9), low(9, 9), low(9)), [[1, 0, 0, 0, 0], [1, 9]])
        self.assertEqual(both(1, 2, low(9, 9), low(0, 1)), [[2, 0, 0], [2, 0, 1]])

    def test_each_can_be_laid_but_not_all(self):
        self.assertEqual(both(1, 5, low(0, 0, 0, 0), low(1, 1, 1, 1)), [[8, 0, 4], [8, 0, 0, 0, 0, 1, 1, 1, 1]])
        self.assertEqual(both(1, 5, low(0, 0, 0, 0), low(1, 1, 1, 1, 1)), [[-6], [-6]])
        self.assertEqual(both(1, 5, low(0, 0, 0), low(1, 1, 1), low(2, 2)),
                         [[8, 0, 3, 0, 6], [8, 0, 0, 0, 1, 1, 1, 2, 2]])
        self.assertEqual(both(1, 5, low(0, 0, 0), low(1, 1, 1), low(2, 2, 2)), [[-6], [-6]])

    def test_longer_than_the_ring(self):
        self.assertEqual(both(1, 3, low(*[0, 1, 9] * 4), low(2, 0, 1, 2)), [[3, 0, 2], [3, 0, 1, 2]])

    def test_joined_pieces(self):
        told = run(begin(1, 5), piece(1, low(0)), piece(1, low(1)), piece(1, low(2)), join(0, 1, 1),
                   least(0, 2), rebuilt(0, 2))
        self.assertEqual(told[4:], [[3], [3, 0, 1], [3, 0, 2, 1]])


class RefusalTest(unittest.TestCase):
    START = [begin(1, 2), seal(low(0)), piece(1, low(0)), piece(2, low(0)), piece(3, low(1)), piece(4, low(1)),
             piece(5, low(0, 0, 0, 0, 0, 0, 0, 0, 1))]

    def check(self, numbers, expected):
        with self.subTest(numbers=numbers):
            self.assertEqual(run(*self.START, least(*numbers), rebuilt(*numbers))[-2:], [expected, expected])

    def test_not_one_to_three(self):
        self.check((), [-1])
        self.check((0, 1, 2, 3), [-1])
        self.check((0, 1, 2, 3, 4), [-1])

    def test_one_named_twice(self):
        self.check((0, 0), [-1])
        self.check((0, 1, 0), [-1])
        self.check((1, 0, 0), [-1])
        self.check((2, 2, 2, 2, 2), [-1])

    def test_no_such_piece(self):
        self.check((5,), [-3])
        self.check((100,), [-3])
        self.check((0, 5), [-3])
        self.check((5, 0, 1), [-3])

    def test_wrong_naming_counts_ahead_of_no_such_piece(self):
        self.check((5, 5), [-1])
        self.check((0, 1, 2, 50), [-1])

    def test_no_such_piece_counts_ahead_of_there_is_none(self):
        self.check((4,), [-6])
        self.check((4, 5), [-3])
        self.check((0, 4), [-6])

    def test_nothing_changes(self):
        asked = [least(0, 2), rebuilt(0, 2)]
        told = run(*self.START, *asked, least(), rebuilt(4), least(9), *asked, piece(1, low(0)))
        self.assertEqual(told[7:], [[2, 0, 1], [2, 0, 1], [-1], [-6], [-3], [2, 0, 1], [2, 0, 1], [5]])


class WholeSearchTest(unittest.TestCase):
    """Pieces can be laid just where some ring without worn cells agrees with all of them."""

    def agrees(self, signs, ring, way, column):
        told = signs[::-1] if way else signs
        return all(sign in (9, ring[(column + step) % len(ring)]) for step, sign in enumerate(told))

    def places_in(self, pieces, ring):
        """The first places of the pieces behind the first one in this ring, or None."""
        if not self.agrees(pieces[0], ring, 0, 0):
            return None
        told = []
        for signs in pieces[1:]:
            places = [(way, column) for way in (0, 1) for column in range(len(ring))
                      if self.agrees(signs, ring, way, column)]
            if not places:
                return None
            told.append(places[0])
        return tuple(told)

    def expected(self, pieces, width_limit):
        for width in range(1, width_limit + 1):
            found = [self.places_in(pieces, ring) for ring in itertools.product((0, 1), repeat=width)]
            found = [places for places in found if places is not None]
            if found:
                return [width] + [number for place in min(found) for number in place]
        return [-6]

    def test_against_every_ring(self):
        source = random.Random(20)
        for turn in range(150):
            pieces = [[source.choice((0, 1, 9, 9)) for column in range(source.randint(1, 12))]
                      for count in range(source.randint(1, 3))]
            with self.subTest(pieces=pieces):
                told = both(1, 2, *[low(*signs) for signs in pieces])
                self.assertEqual(told[0], self.expected(pieces, 8))
                self.check_rebuilt(pieces, *told)

    def check_rebuilt(self, pieces, where, cells):
        if where == [-6]:
            self.assertEqual(cells, [-6])
            return
        width = where[0]
        ring = [9] * width
        places = [(0, 0)] + list(zip(where[1::2], where[2::2]))
        for signs, (way, column) in zip(pieces, places):
            for step, sign in enumerate(signs[::-1] if way else signs):
                if sign != 9:
                    ring[(column + step) % width] = sign
        self.assertEqual(cells, [width] + ring)


if __name__ == "__main__":
    unittest.main()
