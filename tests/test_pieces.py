"""piece, fits and join."""

import unittest

from tests.lines import begin, claim, cut, drop, fits, join, last, least, look, low, piece, rebuilt, run, seal

NO_PIECES = [
    [],
    low(*[0] * 13),
    low(*[9] * 16),
    low(2),
    low(0, 8),
    low(6, 9),
    [[]],
    [[0], []],
    [[], [9]],
    [[0, 0]],
    [[9, 9]],
    [[0], [0, 9]],
    [[0, 0, 0, 0, 0]],
    [[9], [9, 9, 9, 9, 9], [9]],
]


class PieceTest(unittest.TestCase):
    def test_numbers_rise_from_0_and_the_seventh_is_refused(self):
        told = run(begin(1, 2), *[piece(year, low(0)) for year in range(1, 8)])
        self.assertEqual(told, [[0], [0], [1], [2], [3], [4], [5], [-5]])

    def test_years(self):
        for year, expected in ((0, [-1]), (1, [0]), (99, [0]), (100, [-1]), (200, [-1])):
            with self.subTest(year=year):
                self.assertEqual(last(begin(1, 2), piece(year, low(0))), expected)

    def test_one_to_twelve_columns(self):
        for columns in range(17):
            expected = [0] if 1 <= columns <= 12 else [-1]
            with self.subTest(columns=columns):
                self.assertEqual(last(begin(1, 2), piece(1, low(*[1] * columns))), expected)
                self.assertEqual(last(begin(3, 5), piece(1, [[4, 9, 0]] * columns)), expected)

    def test_worn_cells(self):
        self.assertEqual(last(begin(1, 2), piece(1, low(0, 9, 1))), [0])
        self.assertEqual(last(begin(3, 2), piece(1, [[9, 9, 9]])), [0])
        self.assertEqual(last(begin(1, 2), piece(1, low(*[9] * 12))), [0])

    def test_no_piece(self):
        for picture in NO_PIECES:
            with self.subTest(picture=picture):
                self.assertEqual(run(begin(1, 2), piece(1, picture), piece(1, low(0))), [[0], [-1], [0]])

    def test_no_piece_where_columns_are_higher(self):
        for picture in ([[0, 9]], [[0, 0, 0], [0, 0]], [[0, 0, 0, 9]], [[0, 5, 9]], [[8, 0, 0]], low(9), [[]]):
            with self.subTest(picture=picture):
                self.assertEqual(last(begin(3, 5), piece(1, picture)), [-1])

    def test_no_piece_counts_ahead_of_too_many(self):
        six = [begin(1, 2)] + [piece(1, low(0))] * 6
        self.assertEqual(last(*six, piece(0, low(0))), [-1])
        self.assertEqual(last(*six, piece(1, [])), [-1])
        self.assertEqual(last(*six, piece(1, low(0))), [-5])

    def test_a_refused_piece_takes_no_number(self):
        told = run(begin(1, 2), piece(0, low(0)), piece(1, low(2)), piece(1, low(0)), piece(100, low(0)),
                   fits(0, 0), least(1), piece(1, low(1)), least(1))
        self.assertEqual(told, [[0], [-1], [-1], [0], [-1], [-2], [-3], [1], [1]])

    def test_too_many_changes_nothing(self):
        told = run(begin(1, 2), *[piece(1, low(0))] * 7, least(6), join(0, 1, 0), piece(1, low(0)))
        self.assertEqual(told[-4:], [[-5], [-3], [2], [6]])


class FitsTest(unittest.TestCase):
    def told(self, high, signs, ring, picture):
        return last(begin(high, signs), seal(ring), piece(1, picture), fits(0, 0))

    def test_ordinary(self):
        self.assertEqual(self.told(1, 3, low(0, 1, 2, 0), low(0, 1)), [1, 0, 0, 0])
        self.assertEqual(self.told(1, 3, low(0, 1, 2, 0), low(2, 0)), [1, 0, 0, 2])
        self.assertEqual(self.told(1, 3, low(0, 1, 2, 0), low(0)), [4, 0, 0, 0])
        self.assertEqual(self.told(1, 3, low(1, 0, 2, 0), low(0, 9)), [4, 0, 0, 1])

    def test_none(self):
        self.assertEqual(self.told(1, 3, low(0, 1, 2, 0), low(1, 1)), [0])
        self.assertEqual(self.told(2, 2, [[0, 1]], [[0, 0]]), [0])

    def test_only_upside_down(self):
        self.assertEqual(self.told(2, 4, [[0, 1], [2, 3], [0, 0]], [[3, 2], [1, 0]]), [1, 0, 1, 0])
        self.assertEqual(self.told(2, 4, [[0, 1], [2, 3], [0, 0]], [[1, 0], [0, 0]]), [1, 0, 1, 2])
        self.assertEqual(self.told(2, 4, [[0, 1], [2, 3], [0, 0]], [[2, 3], [0, 1]]), [0])
        self.assertEqual(self.told(2, 4, [[0, 1], [2, 3], [0, 0]], [[1, 0], [3, 2]]), [0])

    def test_upside_down_worn_cells_turn_too(self):
        self.assertEqual(self.told(3, 3, [[0, 1, 2], [1, 1, 0]], [[9, 9, 1], [2, 9, 9]]), [1, 0, 1, 0])

    def test_round_the_ring(self):
        self.assertEqual(self.told(1, 3, low(0, 1, 2), low(2, 0)), [1, 0, 0, 2])
        self.assertEqual(self.told(1, 3, low(0, 1, 2), low(1, 2, 0, 1, 2, 0, 1, 2, 0, 1, 2, 0)), [1, 0, 0, 1])
        self.assertEqual(self.told(1, 3, low(0, 1, 2), low(1, 2, 0, 1, 2, 0, 1, 2, 0, 1, 2, 1)), [0])
        self.assertEqual(self.told(1, 3, low(0), low(*[0] * 12)), [2, 0, 0, 0])
        self.assertEqual(self.told(1, 3, low(0), low(*[0] * 11, 1)), [0])

    def test_worn_wholly(self):
        self.assertEqual(self.told(1, 2, low(0, 1, 0), low(9)), [6, 0, 0, 0])
        self.assertEqual(self.told(3, 2, [[0, 1, 0]] * 8, [[9, 9, 9]] * 12), [16, 0, 0, 0])

    def test_height_three_and_five_signs(self):
        ring = [[4, 3, 2], [1, 0, 4], [2, 2, 2]]
        self.assertEqual(self.told(3, 5, ring, [[9, 0, 9], [2, 9, 2]]), [1, 0, 0, 1])
        self.assertEqual(self.told(3, 5, ring, [[9, 0, 9], [2, 9, 3]]), [0])

    def test_a_ring_and_a_piece_of_eight_columns(self):
        ring = low(0, 0, 0, 1, 0, 1, 1, 1)
        for start in range(8):
            with self.subTest(start=start):
                self.assertEqual(self.told(1, 2, ring, ring[start:] + ring[:start])[1:], [0, 0, start])

    def test_all_ages_count_and_the_lowest_age_is_first(self):
        start = [begin(1, 3), seal(low(0, 1)), cut(0, 0, 0, 2), cut(0, 1, 0, 0), cut(0, 0, 0, 1)]
        # The ages are 0 1, 2 1, 2 0, 1 0.
        told = run(*start, piece(1, low(2)), fits(0, 0), piece(1, low(0, 1)), fits(0, 1), piece(1, low(2, 0)),
                   fits(0, 2), piece(1, low(9)), fits(0, 3), piece(1, low(2, 2)), fits(0, 4), piece(1, low(0)),
                   fits(0, 5))
        self.assertEqual(told[6::2], [[4, 1, 0, 0], [4, 0, 0, 0], [2, 2, 0, 0], [16, 0, 0, 0], [0], [6, 0, 0, 0]])

    def test_the_way_counts_ahead_of_the_column(self):
        # As it is it agrees from column 2 on, upside down from column 0 on.
        self.assertEqual(self.told(1, 2, low(1, 0, 0, 1), low(0, 1, 1)), [2, 0, 0, 2])
        self.assertEqual(self.told(1, 3, low(0, 1, 2, 1, 0, 2), low(1, 0, 2)), [2, 0, 0, 3])

    def test_each_seal_for_itself(self):
        told = run(begin(1, 3), seal(low(0, 1)), seal(low(2)), piece(1, low(2)), piece(2, low(1)),
                   fits(0, 0), fits(1, 0), fits(0, 1), fits(1, 1))
        self.assertEqual(told[5:], [[0], [2, 0, 0, 0], [2, 0, 0, 1], [0]])

    def test_refusals(self):
        start = [begin(1, 2), seal(low(0)), piece(1, low(0))]
        self.assertEqual(last(*start, fits(1, 0)), [-2])
        self.assertEqual(last(*start, fits(9, 0)), [-2])
        self.assertEqual(last(*start, fits(0, 1)), [-3])
        self.assertEqual(last(*start, fits(0, 100)), [-3])
        self.assertEqual(last(*start, fits(1, 1)), [-2])


class JoinTest(unittest.TestCase):
    """rebuilt tells the joined piece, where it has as many columns as the least ring."""

    def joined(self, high, signs, first, second, gap):
        return last(begin(high, signs), piece(7, first), piece(7, second), join(0, 1, gap))

    def in_seal(self, ring, first, second, gap):
        return run(begin(1, 5), seal(ring), piece(7, first), piece(7, second), join(0, 1, gap), fits(0, 0))[-2:]

    def test_no_gap(self):
        told = run(begin(1, 5), piece(7, low(0, 1)), piece(7, low(2, 3)), join(0, 1, 0), rebuilt(0), least(1))
        self.assertEqual(told[3:], [[4], [4, 0, 1, 2, 3], [-3]])

    def test_the_other_way_round(self):
        told = run(begin(1, 5), piece(7, low(0, 1)), piece(7, low(2, 3)), join(1, 0, 0), rebuilt(1), least(0))
        self.assertEqual(told[3:], [[4], [4, 2, 3, 0, 1], [-3]])

    def test_a_gap_is_worn(self):
        told = run(begin(1, 5), piece(7, low(0, 1)), piece(7, low(2, 3)), join(0, 1, 2),
                   seal(low(0, 1, 4, 4, 2, 3)), fits(0, 0), piece(7, low(4, 4)), join(0, 2, -4), fits(0, 0))
        self.assertEqual(told[3:], [[6], [0], [1, 0, 0, 0], [2], [6], [1, 0, 0, 0]])

    def test_below_0_it_lies_on_the_last_columns(self):
        told = run(begin(1, 5), piece(7, low(0, 1, 2)), piece(7, low(1, 2, 3)), join(0, 1, -2), rebuilt(0))
        self.assertEqual(told[3:], [[4], [4, 0, 1, 2, 3]])

    def test_it_may_end_ahead_of_the_first_ones_end(self):
        told = run(begin(1, 5), piece(7, low(0, 1, 9, 3)), piece(7, low(9, 2)), join(0, 1, -3), rebuilt(0))
        self.assertEqual(told[3:], [[4], [4, 0, 1, 2, 3]])

    def test_it_may_end_where_the_first_one_ends(self):
        told = run(begin(1, 5), piece(7, low(0, 1, 9, 9)), piece(7, low(2, 3)), join(0, 1, -2), rebuilt(0))
        self.assertEqual(told[3:], [[4], [4, 0, 1, 2, 3]])

    def test_it_may_begin_where_the_first_one_begins(self):
        told = run(begin(1, 5), piece(7, low(9, 1)), piece(7, low(0, 9, 2)), join(0, 1, -2), rebuilt(0))
        self.assertEqual(told[3:], [[3], [3, 0, 1, 2]])

    def test_it_may_not_begin_before_the_first_one(self):
        for gap in (-3, -4, -20):
            with self.subTest(gap=gap):
                self.assertEqual(self.joined(1, 5, low(9, 9), low(9, 9, 9), gap), [-1])

    def test_twelve_and_thirteen_columns(self):
        for first, second, gap, expected in (
                (6, 6, 0, [12]), (6, 7, 0, [-1]), (6, 6, 1, [-1]), (1, 1, 10, [12]), (1, 1, 11, [-1]),
                (1, 1, 20, [-1]), (12, 12, -12, [12]), (12, 12, -11, [-1]), (12, 1, -1, [12]), (12, 1, 0, [-1]),
                (12, 1, -12, [12]), (12, 1, -13, [-1]), (1, 12, -1, [12]), (1, 12, 0, [-1])):
            with self.subTest(first=first, second=second, gap=gap):
                self.assertEqual(self.joined(1, 2, low(*[9] * first), low(*[9] * second), gap), expected)

    def test_cells_of_higher_columns(self):
        told = run(begin(3, 5), piece(7, [[0, 9, 2], [9, 4, 9]]), piece(7, [[1, 4, 9], [3, 3, 3]]),
                   join(0, 1, -1), rebuilt(0))
        self.assertEqual(told[3:], [[3], [3, 0, 9, 2, 1, 4, 9, 3, 3, 3]])

    def test_the_gap_is_worn_in_higher_columns(self):
        told = run(begin(3, 2), piece(7, [[0, 0, 0]]), piece(7, [[1, 1, 1]]), join(0, 1, 1),
                   seal([[0, 0, 0], [0, 1, 0], [1, 1, 1], [0, 0, 0]]), fits(0, 0))
        self.assertEqual(told[3:], [[3], [0], [2, 0, 0, 0]])

    def test_worn_on_worn_stays_worn(self):
        self.assertEqual(self.in_seal(low(0, 4, 1), low(0, 9), low(9, 1), -1), [[3], [1, 0, 0, 0]])
        self.assertEqual(self.in_seal(low(0, 4, 1), low(9, 9), low(9, 9), -1), [[3], [6, 0, 0, 0]])

    def test_numbers_are_not_used_again(self):
        told = run(begin(1, 2), *[piece(7, low(0))] * 6, join(1, 5, 0), piece(7, low(1)), piece(7, low(1)),
                   least(5), rebuilt(6), join(0, 6, 0), piece(7, low(0)), least(7), least(6))
        self.assertEqual(told[7:], [[2], [6], [-5], [-3], [1, 1], [2], [7], [1], [-3]])

    def test_the_second_ones_number_is_gone(self):
        told = run(begin(1, 2), seal(low(0)), piece(7, low(0)), piece(7, low(0)), join(0, 1, 0),
                   fits(0, 1), least(1), rebuilt(0, 1), join(0, 1, 0), join(1, 0, 0), join(1, 1, 0), fits(0, 0))
        self.assertEqual(told[4:], [[2]] + [[-3]] * 6 + [[2, 0, 0, 0]])

    def test_numbers_begin_from_0_again_behind_begin(self):
        told = run(begin(1, 2), piece(7, low(0)), piece(7, low(0)), join(0, 1, 0), piece(7, low(0)),
                   begin(1, 2), piece(7, low(1)), piece(7, low(1)))
        self.assertEqual(told[3:], [[2], [2], [0], [0], [1]])

    def test_a_joined_piece_keeps_its_year(self):
        told = run(begin(1, 2), piece(7, low(0)), piece(7, low(0)), join(1, 0, 0), piece(8, low(0)),
                   piece(7, low(0)), join(1, 2, 0), join(1, 3, 0))
        self.assertEqual(told[3:], [[2], [2], [3], [-10], [3]])

    def test_a_joined_piece_is_joined_again(self):
        told = run(begin(1, 5), piece(7, low(0)), piece(7, low(1)), piece(7, low(2)), join(1, 2, 0),
                   join(0, 1, 0), rebuilt(0))
        self.assertEqual(told[4:], [[2], [3], [3, 0, 1, 2]])

    def test_no_such_piece(self):
        start = [begin(1, 2), piece(7, low(0)), piece(7, low(0))]
        for wrong in (join(0, 2, 0), join(2, 0, 0), join(100, 100, 0), join(2, 3, 0)):
            with self.subTest(wrong=wrong):
                self.assertEqual(last(*start, wrong), [-3])

    def test_no_such_piece_counts_ahead_of_all(self):
        start = [begin(1, 2), piece(7, low(0))]
        self.assertEqual(last(*start, join(1, 1, 0)), [-3])
        self.assertEqual(last(*start, join(0, 1, -20)), [-3])
        self.assertEqual(last(*start, join(0, 1, 20)), [-3])

    def test_one_and_the_same(self):
        self.assertEqual(last(begin(1, 2), piece(7, low(0)), join(0, 0, 0)), [-1])
        self.assertEqual(last(begin(1, 2), piece(7, low(0)), join(0, 0, -1)), [-1])

    def test_years_differ(self):
        self.assertEqual(last(begin(1, 2), piece(7, low(0)), piece(8, low(0)), join(0, 1, 0)), [-10])
        self.assertEqual(last(begin(1, 2), piece(8, low(0)), piece(7, low(0)), join(0, 1, 0)), [-10])

    def test_a_wrong_place_counts_ahead_of_years(self):
        start = [begin(1, 2), piece(7, low(0)), piece(8, low(1))]
        self.assertEqual(last(*start, join(0, 1, -2)), [-1])
        self.assertEqual(last(*start, join(0, 1, 11)), [-1])

    def test_years_count_ahead_of_signs(self):
        self.assertEqual(last(begin(1, 2), piece(7, low(0)), piece(8, low(1)), join(0, 1, -1)), [-10])

    def test_a_wrong_place_counts_ahead_of_signs(self):
        twelve = low(*[0] * 12)
        self.assertEqual(last(begin(1, 2), piece(7, twelve), piece(7, low(1, 1)), join(0, 1, -1)), [-1])

    def test_signs_differ(self):
        self.assertEqual(self.joined(1, 5, low(0, 1, 2), low(1, 3), -2), [-11, 2, 0])
        self.assertEqual(self.joined(1, 5, low(0, 1, 2), low(2, 3), -2), [-11, 1, 0])
        self.assertEqual(self.joined(1, 5, low(0, 1), low(1), -2), [-11, 0, 0])
        self.assertEqual(self.joined(1, 5, low(4, 9, 9, 0, 0, 0), low(4, 1, 2, 0, 1), -6), [-11, 4, 0])

    def test_the_first_column_counts_ahead_of_the_first_cell(self):
        first = [[9, 9, 9], [0, 1, 2], [0, 1, 2]]
        self.assertEqual(self.joined(3, 5, first, [[0, 1, 4], [4, 4, 4]], -2), [-11, 1, 2])
        self.assertEqual(self.joined(3, 5, first, [[0, 9, 2], [9, 4, 4]], -2), [-11, 2, 1])
        self.assertEqual(self.joined(3, 5, first, [[0, 0, 4], [4, 4, 4]], -2), [-11, 1, 1])

    def test_a_refused_join_changes_nothing(self):
        start = [begin(1, 3), piece(7, low(0, 1)), piece(7, low(1, 2)), piece(8, low(0))]
        before = [rebuilt(0), rebuilt(1), rebuilt(2), least(0, 1)]
        expected = run(*start, *before)[4:]
        for wrong in (join(0, 1, -2), join(0, 1, -3), join(0, 1, 9), join(0, 2, 0), join(0, 0, 0), join(0, 3, 0)):
            with self.subTest(wrong=wrong):
                told = run(*start, wrong, *before, piece(7, low(0)), join(0, 1, -1))
                self.assertLess(told[4][0], 0)
                self.assertEqual(told[5:], expected + [[3], [3]])


class GivenPieceTest(unittest.TestCase):
    """join of pieces of which one is given to a seal."""

    def start(self, given, year, picture):
        return [begin(1, 2), seal(low(0, 1)), piece(7, low(0)), piece(year, picture), claim(given, 0, 0)]

    def test_either_one_is_given(self):
        for given in (0, 1):
            for first, second in ((0, 1), (1, 0)):
                with self.subTest(given=given, first=first):
                    self.assertEqual(last(*self.start(given, 7, low(0)), join(first, second, 0)), [-8])

    def test_both_are_given(self):
        self.assertEqual(last(*self.start(0, 7, low(0)), claim(1, 0, 0), join(0, 1, 0)), [-8])

    def test_given_to_an_earlier_age(self):
        self.assertEqual(last(*self.start(0, 7, low(0)), cut(0, 0, 0, 1), join(0, 1, 0)), [-8])

    def test_no_such_piece_counts_ahead_of_given(self):
        self.assertEqual(last(*self.start(0, 7, low(0)), join(0, 2, 0)), [-3])
        self.assertEqual(last(*self.start(0, 7, low(0)), join(2, 0, 0)), [-3])

    def test_a_wrong_place_counts_ahead_of_given(self):
        start = self.start(1, 7, low(0))
        self.assertEqual(last(*start, join(0, 1, -2)), [-1])
        self.assertEqual(last(*start, join(0, 1, 11)), [-1])
        self.assertEqual(last(*start, join(1, 1, 0)), [-1])

    def test_given_counts_ahead_of_years(self):
        self.assertEqual(last(*self.start(1, 8, low(0)), join(0, 1, 0)), [-8])

    def test_given_counts_ahead_of_signs(self):
        self.assertEqual(last(*self.start(1, 7, low(1)), join(0, 1, -1)), [-8])

    def test_nothing_changes(self):
        told = run(*self.start(1, 7, low(1)), join(0, 1, 0), look(0), look(1), piece(1, low(0)))
        self.assertEqual(told[5:], [[-8], [7, 1, 0, 0], [7, 1, 1, 0, 0, 1], [2]])

    def test_behind_its_drop(self):
        told = run(*self.start(1, 7, low(1)), join(0, 1, 0), drop(1), join(0, 1, 0), look(0), claim(0, 0, 0),
                   look(0))
        self.assertEqual(told[5:], [[-8], [0, 0], [2], [7, 2, 0, 0, 1], [0, 0], [7, 2, 1, 0, 0, 0, 1]])


if __name__ == "__main__":
    unittest.main()
