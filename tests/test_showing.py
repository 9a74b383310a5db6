"""look, now and rolled."""

import random
import unittest

from tests.lines import begin, claim, cut, drop, fits, join, last, look, low, now, piece, rolled, run, seal


def told_behind(start, *calls):
    return run(*start, *calls)[len(start):]


def cells(picture):
    return [cell for column in picture for cell in column]


def upside_down(picture):
    return [column[::-1] for column in picture[::-1]]


class LookTest(unittest.TestCase):
    def test_not_given(self):
        self.assertEqual(last(begin(1, 2), piece(50, low(1)), look(0)), [50, 1, 0, 1])
        self.assertEqual(last(begin(1, 5), piece(1, low(4, 0, 3)), look(0)), [1, 3, 0, 4, 0, 3])
        self.assertEqual(last(begin(2, 3), piece(99, [[0, 1], [2, 0]]), look(0)), [99, 2, 0, 0, 1, 2, 0])

    def test_worn_cells(self):
        self.assertEqual(last(begin(3, 5), piece(7, [[9, 1, 2], [4, 9, 9]]), look(0)), [7, 2, 0, 9, 1, 2, 4, 9, 9])
        self.assertEqual(last(begin(1, 2), piece(7, low(*[9] * 12)), look(0)), [7, 12, 0] + [9] * 12)

    def test_given(self):
        start = [begin(2, 3), seal([[0, 0]]), seal([[0, 1], [2, 0]]), cut(1, 0, 0, 1), piece(7, [[9, 0], [9, 1]])]
        told = told_behind(start, claim(0, 1, 0), look(0), drop(0), look(0), claim(0, 1, 1), look(0))
        self.assertEqual(told, [
            [0, 1], [7, 2, 1, 1, 0, 9, 0, 9, 1], [1, 0], [7, 2, 0, 9, 0, 9, 1], [0, 1], [7, 2, 1, 1, 1, 9, 0, 9, 1]])

    def test_given_upside_down_its_cells_stay(self):
        start = [begin(2, 4), seal([[0, 1], [2, 3], [0, 0]]), piece(7, [[3, 2], [1, 0]]), claim(0, 0, 0)]
        self.assertEqual(told_behind(start[:-1], start[-1], look(0)), [[1, 0], [7, 2, 1, 0, 0, 3, 2, 1, 0]])

    def test_behind_a_join(self):
        start = [begin(2, 5), piece(7, [[0, 9], [9, 1]]), piece(7, [[4, 9], [2, 3]])]
        self.assertEqual(told_behind(start, join(0, 1, -1), look(0), look(1)), [
            [3], [7, 3, 0, 0, 9, 4, 1, 2, 3], [-3]])
        self.assertEqual(told_behind(start, join(1, 0, 1), look(1), look(0)), [
            [5], [7, 5, 0, 4, 9, 2, 3, 9, 9, 0, 9, 9, 1], [-3]])

    def test_behind_a_join_that_is_refused(self):
        start = [begin(1, 5), piece(7, low(0, 1)), piece(7, low(2))]
        self.assertEqual(told_behind(start, join(0, 1, -1), look(0), look(1)), [
            [-11, 1, 0], [7, 2, 0, 0, 1], [7, 1, 0, 2]])

    def test_no_such_piece(self):
        self.assertEqual(told_behind([begin(1, 2), piece(7, low(0))], look(1), look(100)), [[-3], [-3]])
        self.assertEqual(last(begin(1, 2), seal(low(0)), look(0)), [-3])


class NowTest(unittest.TestCase):
    def of_ring(self, high, signs, ring):
        return last(begin(high, signs), seal(ring), now(0))

    def test_as_it_was_handed_in(self):
        self.assertEqual(self.of_ring(1, 5, low(4)), [0, 0, 1, 4])
        self.assertEqual(self.of_ring(1, 3, low(0, 1, 2)), [0, 0, 3, 0, 1, 2])
        self.assertEqual(self.of_ring(2, 3, [[0, 1], [2, 0]]), [0, 0, 2, 0, 1, 2, 0])

    def test_begins_with_another_column(self):
        self.assertEqual(self.of_ring(1, 3, low(2, 0, 1)), [0, 0, 3, 0, 1, 2])
        self.assertEqual(self.of_ring(1, 2, low(0, 1, 0, 0, 1, 1, 1, 0)), [0, 0, 8, 0, 0, 1, 0, 0, 1, 1, 1])
        self.assertEqual(self.of_ring(2, 4, [[0, 1], [2, 3], [0, 0]]), [0, 0, 3, 0, 0, 0, 1, 2, 3])
        self.assertEqual(self.of_ring(3, 3, [[2, 1, 0], [0, 0, 1]]), [0, 0, 2, 0, 0, 1, 2, 1, 0])

    def test_upside_down(self):
        self.assertEqual(self.of_ring(1, 3, low(0, 2, 1)), [0, 0, 3, 0, 1, 2])
        self.assertEqual(self.of_ring(2, 2, [[1, 0]]), [0, 0, 1, 0, 1])
        self.assertEqual(self.of_ring(2, 4, [[1, 0], [3, 2]]), [0, 0, 2, 0, 1, 2, 3])
        self.assertEqual(self.of_ring(3, 3, [[2, 1, 0], [1, 0, 0]]), [0, 0, 2, 0, 0, 1, 0, 1, 2])

    def test_behind_cuts(self):
        start = [begin(1, 3), seal(low(1, 1, 1))]
        told = told_behind(start, now(0), cut(0, 1, 0, 2), now(0), cut(0, 2, 0, 0), now(0), cut(0, 0, 0, 0), now(0),
                           cut(0, 0, 0, 1), now(0))
        self.assertEqual(told, [
            [0, 0, 3, 1, 1, 1], [1], [1, 0, 3, 1, 1, 2], [2], [2, 0, 3, 0, 1, 2], [3], [3, 0, 3, 0, 0, 2],
            [-5], [3, 0, 3, 0, 0, 2]])

    def test_columns_keep_their_numbers(self):
        # What is told first here is column 1: the cut is of column 0 all the same.
        told = told_behind([begin(1, 3), seal(low(2, 0, 1))], now(0), cut(0, 0, 0, 1), now(0), rolled(0, 1, 0, 3, 0))
        self.assertEqual(told, [[0, 0, 3, 0, 1, 2], [1], [1, 0, 3, 0, 1, 1], [1, 0, 1]])

    def test_behind_claims_and_drops(self):
        start = [begin(1, 3), seal(low(0)), cut(0, 0, 0, 1), seal(low(0, 1)), piece(1, low(0)), piece(2, low(1)),
                 piece(3, low(1))]
        told = told_behind(start, now(0), claim(0, 0, 0), now(0), claim(1, 0, 1), now(0), claim(2, 1, 0), now(0),
                           now(1), drop(0), now(0), drop(1), now(0), now(1))
        self.assertEqual(told, [
            [1, 0, 1, 1], [0, 0], [1, 1, 1, 1], [0, 0], [1, 2, 1, 1], [0, 1], [1, 2, 1, 1], [0, 1, 2, 0, 1],
            [0, 0], [1, 1, 1, 1], [0, 1], [1, 0, 1, 1], [0, 1, 2, 0, 1]])

    def test_six_pieces_of_one_seal(self):
        given = [piece(5, low(0))] * 6 + [claim(number, 0, 0) for number in range(6)]
        self.assertEqual(last(begin(1, 2), seal(low(0)), *given, now(0)), [0, 6, 1, 0])

    def test_no_such_seal(self):
        self.assertEqual(told_behind([begin(1, 2), seal(low(0))], now(1), now(9)), [[-2], [-2]])
        self.assertEqual(last(begin(1, 2), piece(1, low(0)), now(0)), [-2])

    def test_against_every_spelling(self):
        source = random.Random(5)
        for turn in range(200):
            high = source.randint(1, 3)
            ring = [[source.randint(0, 1) for cell in range(high)] for column in range(source.randint(1, 8))]
            told = [cells(way[start:] + way[:start]) for way in (ring, upside_down(ring)) for start in range(len(ring))]
            with self.subTest(ring=ring):
                self.assertEqual(self.of_ring(high, 2, ring), [0, 0, len(ring)] + min(told))


class RolledTest(unittest.TestCase):
    # The ages are 0 1 2, 3 1 2 and 3 1 4.
    START = [begin(1, 5), seal(low(0, 1, 2)), cut(0, 0, 0, 3), cut(0, 2, 0, 4)]
    HIGHER = [begin(3, 5), seal([[0, 1, 2], [3, 4, 0]])]

    def test_from_each_column_on(self):
        told = told_behind(self.START, *[rolled(0, 0, column, 2, 0) for column in range(4)])
        self.assertEqual(told, [[0, 1], [1, 2], [2, 0], [-1]])

    def test_at_each_age(self):
        told = told_behind(self.START, *[rolled(0, age, 0, 3, 0) for age in range(4)])
        self.assertEqual(told, [[0, 1, 2], [3, 1, 2], [3, 1, 4], [-1]])

    def test_upside_down(self):
        self.assertEqual(last(*self.START, rolled(0, 0, 0, 3, 1)), [2, 1, 0])
        self.assertEqual(last(*self.START, rolled(0, 0, 0, 2, 1)), [1, 0])
        self.assertEqual(last(*self.START, rolled(0, 1, 2, 2, 1)), [3, 2])
        self.assertEqual(last(*self.START, rolled(0, 0, 1, 1, 1)), [1])

    def test_higher_columns(self):
        self.assertEqual(last(*self.HIGHER, rolled(0, 0, 0, 2, 0)), [0, 1, 2, 3, 4, 0])
        self.assertEqual(last(*self.HIGHER, rolled(0, 0, 0, 2, 1)), [0, 4, 3, 2, 1, 0])
        self.assertEqual(last(*self.HIGHER, rolled(0, 0, 1, 2, 0)), [3, 4, 0, 0, 1, 2])
        self.assertEqual(last(*self.HIGHER, rolled(0, 0, 1, 2, 1)), [2, 1, 0, 0, 4, 3])
        self.assertEqual(last(*self.HIGHER, rolled(0, 0, 0, 1, 1)), [2, 1, 0])

    def test_more_columns_than_the_ring_has(self):
        self.assertEqual(last(*self.START, rolled(0, 0, 2, 5, 0)), [2, 0, 1, 2, 0])
        self.assertEqual(last(*self.START, rolled(0, 0, 2, 5, 1)), [0, 2, 1, 0, 2])
        self.assertEqual(last(*self.START, rolled(0, 0, 1, 12, 0)), [1, 2, 0] * 4)
        self.assertEqual(last(begin(1, 2), seal(low(1)), rolled(0, 0, 0, 12, 1)), [1] * 12)

    def test_how_many_columns(self):
        for columns in range(21):
            with self.subTest(columns=columns):
                told = last(*self.START, rolled(0, 0, 0, columns, 0))
                self.assertEqual(told, ([0, 1, 2] * 4)[:columns] if 1 <= columns <= 12 else [-1])

    def test_ways(self):
        told = told_behind(self.START, *[rolled(0, 0, 0, 2, way) for way in range(4)])
        self.assertEqual(told, [[0, 1], [1, 0], [-1], [-1]])

    def test_no_such_column(self):
        told = told_behind(self.START, rolled(0, 0, 2, 1, 0), rolled(0, 0, 3, 1, 0), rolled(0, 0, 20, 1, 0))
        self.assertEqual(told, [[2], [-1], [-1]])
        eight = low(0, 0, 0, 0, 0, 0, 0, 1)
        self.assertEqual(run(begin(1, 2), seal(eight), rolled(0, 0, 7, 2, 0), rolled(0, 0, 8, 2, 0))[2:],
                         [[1, 0], [-1]])

    def test_no_such_age(self):
        told = told_behind(self.START, rolled(0, 3, 0, 1, 0), rolled(0, 9, 0, 1, 0), rolled(0, 9, 20, 20, 3))
        self.assertEqual(told, [[-1], [-1], [-1]])

    def test_no_such_seal(self):
        self.assertEqual(told_behind(self.START, rolled(1, 0, 0, 1, 0), rolled(9, 0, 0, 1, 0)), [[-2], [-2]])

    def test_no_such_seal_counts_ahead_of_what_is_wrong(self):
        for wrong in ((9, 0, 1, 0), (0, 20, 1, 0), (0, 0, 0, 0), (0, 0, 13, 0), (0, 0, 1, 2)):
            with self.subTest(wrong=wrong):
                self.assertEqual(told_behind(self.START, rolled(1, *wrong), rolled(0, *wrong)), [[-2], [-1]])

    def test_nothing_changes(self):
        shown = [now(0), fits(0, 0), look(0)]
        start = self.START + [piece(1, low(1, 0))]
        told = told_behind(start, *shown, rolled(0, 0, 0, 12, 1), rolled(0, 0, 3, 12, 1), *shown, piece(1, low(0)))
        self.assertEqual(told[:3], told[5:8])
        self.assertEqual(told[8], [1])

    def test_a_piece_so_rolled_agrees_there(self):
        source = random.Random(9)
        for turn in range(100):
            high = source.randint(1, 3)
            ring = [[source.randint(0, 4) for cell in range(high)] for column in range(source.randint(1, 8))]
            column, columns, way = source.randrange(len(ring)), source.randint(1, 12), source.randint(0, 1)
            start = [begin(high, 5), seal(ring)]
            told = last(*start, rolled(0, 0, column, columns, way))
            picture = [told[at:at + high] for at in range(0, len(told), high)]
            with self.subTest(ring=ring, column=column, columns=columns, way=way):
                self.assertEqual(len(picture), columns)
                self.check_agrees(start, ring, picture, [way, column])

    def check_agrees(self, start, ring, picture, place):
        claimed = last(*start, piece(1, picture), claim(0, 0, 0))
        self.assertLessEqual(claimed, place)
        expected = upside_down(picture) if place[0] else picture
        self.assertEqual(expected, [ring[(place[1] + step) % len(ring)] for step in range(len(picture))])


if __name__ == "__main__":
    unittest.main()
