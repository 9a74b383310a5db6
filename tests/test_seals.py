"""seal, cut and same."""

import unittest

from tests.lines import begin, cut, fits, last, low, piece, run, same, seal

NO_RINGS = [
    [],
    low(*[0] * 9),
    low(*[0] * 16),
    low(9),
    low(0, 1, 9),
    low(2),
    low(0, 8, 1),
    [[]],
    [[0], []],
    [[], [0]],
    [[0, 0]],
    [[0], [0, 1]],
    [[0, 0, 0, 0, 0]],
    [[0], [0, 1, 0, 1, 0], [1]],
]


class SealTest(unittest.TestCase):
    def test_numbers_rise_from_0(self):
        told = run(begin(1, 2), seal(low(0)), seal(low(1)), seal(low(0, 1)), seal(low(0, 0)))
        self.assertEqual(told, [[0], [0], [1], [2], [3]])

    def test_rings_of_one_and_of_eight_columns(self):
        self.assertEqual(last(begin(1, 2), seal(low(0))), [0])
        self.assertEqual(last(begin(1, 2), seal(low(*[0] * 8))), [0])
        self.assertEqual(last(begin(3, 5), seal([[4, 0, 3]] * 8)), [0])

    def test_no_ring(self):
        for picture in NO_RINGS:
            with self.subTest(picture=picture):
                self.assertEqual(run(begin(1, 2), seal(picture), seal(low(0))), [[0], [-1], [0]])

    def test_no_ring_where_columns_are_higher(self):
        for picture in ([[0, 0]], [[0, 0, 0], [0, 0]], [[0, 0, 0, 0]], [[0, 0, 5]], [[9, 0, 0]], low(0), [[]]):
            with self.subTest(picture=picture):
                self.assertEqual(last(begin(3, 5), seal(picture)), [-1])

    def test_the_fifth_is_refused(self):
        four = [begin(1, 5), seal(low(0)), seal(low(1)), seal(low(2)), seal(low(3))]
        self.assertEqual(run(*four, seal(low(4))), [[0], [0], [1], [2], [3], [-5]])

    def test_no_ring_counts_ahead_of_too_many(self):
        four = [begin(1, 5), seal(low(0)), seal(low(1)), seal(low(2)), seal(low(3))]
        self.assertEqual(last(*four, seal([])), [-1])
        self.assertEqual(last(*four, seal(low(9))), [-1])

    def test_too_many_counts_ahead_of_the_same(self):
        four = [begin(1, 5), seal(low(0)), seal(low(1)), seal(low(2)), seal(low(3))]
        self.assertEqual(last(*four, seal(low(0))), [-5])

    def test_the_same_as_it_is(self):
        self.assertEqual(last(begin(1, 3), seal(low(1)), seal(low(0, 1, 2)), seal(low(0, 1, 2))), [-4, 1])

    def test_the_same_from_another_column_on(self):
        ring = low(0, 0, 1, 0, 1, 1, 2, 2)
        for start in range(8):
            with self.subTest(start=start):
                self.assertEqual(last(begin(1, 3), seal(ring), seal(ring[start:] + ring[:start])), [-4, 0])

    def test_the_same_only_upside_down(self):
        first = [[0, 1], [2, 3]]
        self.assertEqual(last(begin(2, 4), seal(first), seal([[3, 2], [1, 0]])), [-4, 0])
        self.assertEqual(last(begin(2, 4), seal(first), seal([[1, 0], [3, 2]])), [-4, 0])

    def test_the_same_only_upside_down_and_from_another_column_on(self):
        first = [[0, 1], [2, 3], [0, 0]]
        self.assertEqual(last(begin(2, 4), seal(first), seal([[1, 0], [0, 0], [3, 2]])), [-4, 0])

    def test_turning_only_the_columns_or_only_their_order_is_another_ring(self):
        first = [[0, 1], [2, 3], [0, 0]]
        self.assertEqual(last(begin(2, 4), seal(first), seal([[1, 0], [3, 2], [0, 0]])), [1])
        self.assertEqual(last(begin(2, 4), seal(first), seal([[0, 0], [2, 3], [0, 1]])), [1])

    def test_one_cell_high_upside_down_is_backwards(self):
        told = run(begin(1, 4), seal(low(0, 1, 2, 3)), seal(low(3, 2, 1, 0)), seal(low(0, 2, 1, 3)))
        self.assertEqual(told, [[0], [0], [-4, 0], [1]])

    def test_rings_of_other_lengths_are_others(self):
        told = run(begin(1, 2), seal(low(0)), seal(low(0, 0)), seal(low(0, 0, 0)), seal(low(0, 0)))
        self.assertEqual(told, [[0], [0], [1], [2], [-4, 1]])

    def test_only_how_seals_are_now_counts(self):
        told = run(begin(1, 3), seal(low(0, 1)), cut(0, 0, 0, 2), seal(low(0, 1)), seal(low(1, 2)))
        self.assertEqual(told, [[0], [0], [1], [1], [-4, 0]])

    def test_a_refused_seal_takes_no_number(self):
        told = run(begin(1, 2), seal(low(0)), seal(low(0)), seal([]), cut(1, 0, 0, 0), seal(low(1)))
        self.assertEqual(told, [[0], [0], [-4, 0], [-1], [-2], [1]])


class CutTest(unittest.TestCase):
    def test_ages_rise_and_the_fourth_cut_is_refused(self):
        told = run(begin(1, 5), seal(low(0)), cut(0, 0, 0, 1), cut(0, 0, 0, 2), cut(0, 0, 0, 3), cut(0, 0, 0, 4))
        self.assertEqual(told, [[0], [0], [1], [2], [3], [-5]])

    def test_that_cell_gets_that_sign(self):
        ring = [[0, 0, 0], [0, 0, 0]]
        for column in range(2):
            for cell in range(3):
                changed = [list(told) for told in ring]
                changed[column][cell] = 4
                with self.subTest(column=column, cell=cell):
                    told = run(begin(3, 5), seal(ring), cut(0, column, cell, 4), seal(changed), seal(ring),
                               piece(1, changed + changed), fits(0, 0), piece(1, ring), fits(0, 1))
                    self.assertEqual(told[2:5], [[1], [-4, 0], [1]])
                    self.assertEqual(told[6][1:], [1, 0, 0])
                    self.assertEqual(told[8], [4, 0, 0, 0])

    def test_each_seal_has_its_own_ages(self):
        told = run(begin(1, 5), seal(low(0)), seal(low(1, 1)), cut(1, 0, 0, 2), cut(0, 0, 0, 3), cut(1, 1, 0, 4))
        self.assertEqual(told, [[0], [0], [1], [1], [1], [2]])

    def test_no_such_seal(self):
        self.assertEqual(last(begin(1, 2), cut(0, 0, 0, 0)), [-2])
        self.assertEqual(last(begin(1, 2), seal(low(0)), cut(1, 0, 0, 1)), [-2])
        self.assertEqual(last(begin(1, 2), seal(low(0)), cut(9, 0, 0, 1)), [-2])

    def test_no_such_seal_counts_ahead_of_no_such_column(self):
        self.assertEqual(last(begin(1, 2), seal(low(0)), cut(1, 20, 9, 9)), [-2])

    def test_no_such_column_cell_or_sign(self):
        start = [begin(2, 3), seal([[0, 1], [0, 2], [1, 1]])]
        for wrong in ((3, 0, 1), (20, 0, 1), (0, 2, 1), (0, 9, 1), (0, 0, 3), (0, 0, 9)):
            with self.subTest(wrong=wrong):
                self.assertEqual(last(*start, cut(0, *wrong)), [-1])
        self.assertEqual(last(*start, cut(0, 2, 1, 2)), [1])

    def test_no_such_column_counts_ahead_of_cut_three_times(self):
        start = [begin(1, 5), seal(low(0)), cut(0, 0, 0, 1), cut(0, 0, 0, 2), cut(0, 0, 0, 3)]
        self.assertEqual(last(*start, cut(0, 1, 0, 4)), [-1])
        self.assertEqual(last(*start, cut(0, 0, 1, 4)), [-1])
        self.assertEqual(last(*start, cut(0, 0, 0, 5)), [-1])

    def test_cut_three_times_counts_ahead_of_it_has_that_sign(self):
        start = [begin(1, 5), seal(low(0)), cut(0, 0, 0, 1), cut(0, 0, 0, 2), cut(0, 0, 0, 3)]
        self.assertEqual(last(*start, cut(0, 0, 0, 3)), [-5])

    def test_cut_three_times_counts_ahead_of_the_same_as_another(self):
        start = [begin(1, 5), seal(low(0)), cut(0, 0, 0, 1), cut(0, 0, 0, 2), cut(0, 0, 0, 3), seal(low(4))]
        self.assertEqual(last(*start, cut(0, 0, 0, 4)), [-5])

    def test_it_has_that_sign(self):
        told = run(begin(1, 2), seal(low(0, 1)), cut(0, 1, 0, 1), cut(0, 0, 0, 1), cut(0, 0, 0, 1))
        self.assertEqual(told, [[0], [0], [-6], [1], [-6]])

    def test_the_same_as_another_as_that_is_now(self):
        told = run(begin(1, 3), seal(low(0, 0, 1)), seal(low(2, 0, 0)), cut(1, 0, 0, 1), cut(0, 2, 0, 2))
        self.assertEqual(told, [[0], [0], [1], [-4, 0], [-4, 1]])

    def test_the_same_as_another_only_upside_down(self):
        told = run(begin(2, 4), seal([[0, 1], [2, 3]]), seal([[3, 2], [0, 0]]), cut(1, 1, 0, 1))
        self.assertEqual(told, [[0], [0], [1], [-4, 0]])

    def test_what_another_one_was_does_not_count(self):
        told = run(begin(1, 3), seal(low(0)), cut(0, 0, 0, 1), seal(low(2)), cut(1, 0, 0, 0), cut(0, 0, 0, 0))
        self.assertEqual(told, [[0], [0], [1], [1], [1], [-4, 1]])

    def test_what_it_was_itself_does_not_count(self):
        told = run(begin(1, 2), seal(low(0)), cut(0, 0, 0, 1), cut(0, 0, 0, 0), cut(0, 0, 0, 1), cut(0, 0, 0, 0))
        self.assertEqual(told, [[0], [0], [1], [2], [3], [-5]])

    def test_a_cut_to_another_spelling_of_itself(self):
        # 0 0 1 becomes 0 1 1, then 0 1 0: what it was, told from another column on.
        told = run(begin(1, 2), seal(low(0, 0, 1)), cut(0, 1, 0, 1), cut(0, 2, 0, 0))
        self.assertEqual(told, [[0], [0], [1], [2]])

    def test_a_refused_cut_changes_nothing(self):
        told = run(
            begin(1, 3), seal(low(0)), seal(low(1)),
            cut(0, 1, 0, 2), cut(0, 0, 0, 0), cut(0, 0, 0, 1),
            seal(low(0)), piece(1, low(1)), fits(0, 0), cut(0, 0, 0, 2))
        self.assertEqual(told, [[0], [0], [1], [-1], [-6], [-4, 1], [-4, 0], [0], [0], [1]])

    def test_a_fourth_cut_changes_nothing(self):
        told = run(begin(1, 5), seal(low(0)), cut(0, 0, 0, 1), cut(0, 0, 0, 2), cut(0, 0, 0, 3), cut(0, 0, 0, 4),
                   seal(low(3)), seal(low(4)), piece(1, low(4)), fits(0, 0))
        self.assertEqual(told[-5:], [[-5], [-4, 0], [1], [0], [0]])


class SameTest(unittest.TestCase):
    def told(self, high, signs, first, second):
        return last(begin(high, signs), same(len(first), first + second))

    def test_every_spelling_is_the_same(self):
        ring = [[0, 1], [2, 0], [1, 1]]
        upside_down = [[1, 1], [0, 2], [1, 0]]
        for told in (ring, upside_down):
            for start in range(3):
                with self.subTest(told=told, start=start):
                    self.assertEqual(self.told(2, 3, ring, told[start:] + told[:start]), [1])

    def test_others_are_not(self):
        ring = [[0, 1], [2, 0], [1, 1]]
        for other in ([[1, 1], [2, 0], [0, 1]], [[1, 0], [0, 2], [1, 1]], [[0, 1], [2, 0], [1, 2]], [[0, 1], [2, 0]]):
            with self.subTest(other=other):
                self.assertEqual(self.told(2, 3, ring, other), [0])
                self.assertEqual(self.told(2, 3, other, ring), [0])

    def test_rings_of_unlike_lengths_are_not(self):
        self.assertEqual(self.told(1, 2, low(0), low(0, 0)), [0])
        self.assertEqual(self.told(1, 2, low(0, 1, 0, 1), low(0, 1)), [0])

    def test_rings_of_one_and_of_eight_columns(self):
        eight = low(0, 0, 0, 1, 0, 1, 1, 1)
        self.assertEqual(self.told(1, 2, low(1), low(1)), [1])
        self.assertEqual(self.told(1, 2, low(1), low(0)), [0])
        self.assertEqual(self.told(1, 2, eight, eight[3:] + eight[:3]), [1])
        self.assertEqual(self.told(1, 2, eight, low(0, 0, 0, 1, 1, 0, 1, 1)), [0])
        self.assertEqual(self.told(1, 2, eight, low(0, 0, 0, 1, 1, 1, 0, 1)), [1])
        self.assertEqual(self.told(3, 5, [[4, 3, 2]], [[2, 3, 4]]), [1])
        self.assertEqual(self.told(3, 5, [[4, 3, 2]], [[3, 2, 4]]), [0])

    def test_n_tells_where_the_first_one_ends(self):
        picture = low(0, 1, 0, 0, 1, 0)
        told = run(begin(1, 2), *[same(count, picture) for count in (0, 1, 2, 3, 4, 5, 6, 7, 20)])
        self.assertEqual(told[1:], [[-1], [0], [0], [1], [0], [0], [-1], [-1], [-1]])

    def test_no_columns(self):
        self.assertEqual(last(begin(1, 2), same(0, [])), [-1])
        self.assertEqual(last(begin(1, 2), same(1, [])), [-1])

    def test_more_than_eight_columns_on_either_side(self):
        for columns, count, expected in (
                (9, 1, [0]), (9, 8, [0]), (10, 1, [-1]), (10, 9, [-1]), (16, 8, [1]), (16, 7, [-1]), (16, 9, [-1])):
            with self.subTest(columns=columns, count=count):
                self.assertEqual(last(begin(1, 2), same(count, low(*[0] * columns))), expected)

    def test_no_ring_on_either_side(self):
        for wrong in (low(9), low(2), [[]], [[0, 0]], [[0], []], [[0], [0, 0]], [[0, 0, 0, 0, 0]]):
            with self.subTest(wrong=wrong):
                self.assertEqual(self.told(1, 2, wrong, low(0)), [-1])
                self.assertEqual(self.told(1, 2, low(0), wrong), [-1])
                self.assertEqual(self.told(1, 2, wrong, wrong), [-1])

    def test_nothing_is_kept(self):
        told = run(begin(1, 2), same(1, low(0, 1)), fits(0, 0), seal(low(0)), seal(low(1)))
        self.assertEqual(told, [[0], [0], [-2], [0], [1]])


if __name__ == "__main__":
    unittest.main()
