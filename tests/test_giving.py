"""ages, which, claim, drop and cuts."""

import random
import unittest

from tests.lines import (
    ages, begin, claim, cut, cuts, drop, fits, join, last, look, low, now, piece, run, seal, which)

# The ages of this seal are 0 1 2, 3 1 2 and 3 4 2.
THREE_AGES = [begin(1, 5), seal(low(0, 1, 2)), cut(0, 0, 0, 3), cut(0, 1, 0, 4)]


def told_behind(start, *calls):
    return run(*start, *calls)[len(start):]


class AgesTest(unittest.TestCase):
    def alone(self, picture):
        return last(*THREE_AGES, piece(50, picture), ages(0, 0))

    def beside(self, given, year, picture=low(2)):
        """The ages for a piece of that year, where pieces of these years are given to these ages."""
        calls = []
        for number, (given_year, age) in enumerate(given):
            calls += [piece(given_year, low(2)), claim(number, 0, age)]
        return last(*THREE_AGES, *calls, piece(year, picture), ages(0, len(given)))

    def test_where_it_agrees(self):
        self.assertEqual(self.alone(low(2)), [3, 0, 1, 2])
        self.assertEqual(self.alone(low(1)), [2, 0, 1])
        self.assertEqual(self.alone(low(3)), [2, 1, 2])
        self.assertEqual(self.alone(low(3, 1)), [1, 1])
        self.assertEqual(self.alone(low(9, 9)), [3, 0, 1, 2])

    def test_an_earlier_age_alone_and_a_later_one_alone(self):
        self.assertEqual(self.alone(low(0)), [1, 0])
        self.assertEqual(self.alone(low(4)), [1, 2])

    def test_none(self):
        self.assertEqual(self.alone(low(0, 0)), [0])
        self.assertEqual(self.alone(low(0, 4)), [0])

    def test_ages_that_are_not_side_by_side(self):
        told = run(begin(1, 2), seal(low(0)), cut(0, 0, 0, 1), cut(0, 0, 0, 0), cut(0, 0, 0, 1),
                   piece(1, low(0)), ages(0, 0), piece(1, low(1)), ages(0, 1))
        self.assertEqual(told[6::2], [[2, 0, 2], [2, 1, 3]])

    def test_upside_down_or_round_the_ring(self):
        start = [begin(2, 4), seal([[0, 1], [2, 3], [0, 0]]), cut(0, 1, 0, 1)]
        self.assertEqual(last(*start, piece(1, [[3, 2], [1, 0]]), ages(0, 0)), [1, 0])
        self.assertEqual(last(*start, piece(1, [[3, 1], [1, 0]]), ages(0, 0)), [1, 1])
        self.assertEqual(last(*start, piece(1, [[0, 0], [0, 1], [9, 3], [0, 0]]), ages(0, 0)), [2, 0, 1])
        self.assertEqual(last(*start, piece(1, [[3, 3]]), ages(0, 0)), [0])

    def test_a_seal_that_was_never_cut(self):
        self.assertEqual(last(begin(1, 2), seal(low(0)), piece(1, low(0)), ages(0, 0)), [1, 0])
        self.assertEqual(last(begin(1, 2), seal(low(0)), piece(1, low(1)), ages(0, 0)), [0])

    def test_an_earlier_year_not_at_a_later_age(self):
        self.assertEqual(self.beside([(50, 0)], 49), [1, 0])
        self.assertEqual(self.beside([(50, 1)], 49), [2, 0, 1])
        self.assertEqual(self.beside([(50, 2)], 49), [3, 0, 1, 2])

    def test_a_later_year_not_at_an_earlier_age(self):
        self.assertEqual(self.beside([(50, 0)], 51), [3, 0, 1, 2])
        self.assertEqual(self.beside([(50, 1)], 51), [2, 1, 2])
        self.assertEqual(self.beside([(50, 2)], 51), [1, 2])

    def test_equal_years_at_whatever_ages(self):
        for age in range(3):
            with self.subTest(age=age):
                self.assertEqual(self.beside([(50, age)], 50), [3, 0, 1, 2])
        self.assertEqual(self.beside([(50, 2), (50, 0)], 50), [3, 0, 1, 2])

    def test_all_that_are_given_count(self):
        given = [(40, 0), (50, 1), (60, 2)]
        for year, expected in (
                (39, [1, 0]), (40, [2, 0, 1]), (45, [2, 0, 1]), (50, [3, 0, 1, 2]), (55, [2, 1, 2]),
                (60, [2, 1, 2]), (61, [1, 2])):
            with self.subTest(year=year):
                self.assertEqual(self.beside(given, year), expected)

    def test_none_where_equal_years_stand_at_either_end(self):
        self.assertEqual(self.beside([(50, 0), (50, 2)], 49), [1, 0])
        self.assertEqual(self.beside([(50, 0), (50, 2)], 51), [1, 2])

    def test_both_must_hold(self):
        self.assertEqual(self.beside([(50, 1)], 60, low(0)), [0])
        self.assertEqual(self.beside([(50, 1)], 40, low(4)), [0])
        self.assertEqual(self.beside([(50, 1)], 60, low(1)), [1, 1])
        self.assertEqual(self.beside([(50, 1)], 40, low(3)), [1, 1])

    def test_a_piece_that_is_given_itself(self):
        start = THREE_AGES + [piece(50, low(2)), claim(0, 0, 1)]
        self.assertEqual(last(*start, ages(0, 0)), [3, 0, 1, 2])
        self.assertEqual(last(*start, piece(40, low(2)), claim(1, 0, 1), ages(0, 0)), [2, 1, 2])
        self.assertEqual(last(*start, piece(60, low(2)), claim(1, 0, 1), ages(0, 0)), [2, 0, 1])
        self.assertEqual(
            last(*start, piece(40, low(2)), claim(1, 0, 1), piece(60, low(2)), claim(2, 0, 1), ages(0, 0)), [1, 1])

    def test_pieces_given_to_another_seal(self):
        start = THREE_AGES + [seal(low(2)), cut(1, 0, 0, 3), piece(50, low(2)), claim(0, 1, 0)]
        self.assertEqual(
            told_behind(start, piece(60, low(3)), claim(1, 1, 1), piece(40, low(2)), ages(0, 2), ages(1, 2)),
            [[1], [0, 0], [2], [3, 0, 1, 2], [1, 0]])
        self.assertEqual(
            told_behind(start, piece(70, low(9)), ages(1, 1), claim(1, 0, 0), ages(0, 0), ages(1, 0), ages(0, 1)),
            [[1], [2, 0, 1], [0, 0], [1, 0], [1, 0], [3, 0, 1, 2]])

    def test_dropped_pieces_do_not_count(self):
        start = THREE_AGES + [piece(50, low(2)), claim(0, 0, 2), piece(60, low(2))]
        self.assertEqual(told_behind(start, ages(0, 1), drop(0), ages(0, 1)), [[1, 2], [0, 2], [3, 0, 1, 2]])

    def test_refusals(self):
        start = THREE_AGES + [piece(50, low(2))]
        self.assertEqual(told_behind(start, ages(1, 0), ages(9, 0)), [[-2], [-2]])
        self.assertEqual(told_behind(start, ages(0, 1), ages(0, 100)), [[-3], [-3]])

    def test_no_such_seal_counts_ahead_of_no_such_piece(self):
        self.assertEqual(last(*THREE_AGES, ages(1, 0)), [-2])

    def test_a_joined_piece(self):
        start = THREE_AGES + [piece(50, low(3)), piece(50, low(1))]
        self.assertEqual(told_behind(start, join(0, 1, 0), ages(0, 0), ages(0, 1)), [[2], [1, 1], [-3]])


class WhichTest(unittest.TestCase):
    # The ages: 0 1 and 2 1; 3 and 0; 4 4.
    START = [begin(1, 5), seal(low(0, 1)), cut(0, 0, 0, 2), seal(low(3)), cut(1, 0, 0, 0), seal(low(4, 4))]

    def alone(self, picture):
        return last(*self.START, piece(50, picture), which(0))

    def test_where_it_agrees_with_some_age(self):
        self.assertEqual(self.alone(low(9)), [3, 0, 1, 2])
        self.assertEqual(self.alone(low(0)), [2, 0, 1])
        self.assertEqual(self.alone(low(1)), [1, 0])
        self.assertEqual(self.alone(low(3)), [1, 1])
        self.assertEqual(self.alone(low(4, 4, 4)), [1, 2])
        self.assertEqual(self.alone(low(2, 4)), [0])

    def test_four_seals_and_none(self):
        self.assertEqual(last(*self.START, seal(low(4)), piece(1, low(9)), which(0)), [4, 0, 1, 2, 3])
        self.assertEqual(last(begin(1, 5), piece(1, low(9)), which(0)), [0])

    def test_where_it_is_in_order(self):
        start = self.START + [piece(50, low(1)), claim(0, 0, 1)]
        self.assertEqual(last(*start, piece(51, low(0)), which(1)), [1, 1])
        self.assertEqual(last(*start, piece(50, low(0)), which(1)), [2, 0, 1])
        self.assertEqual(last(*start, piece(49, low(0)), which(1)), [2, 0, 1])
        self.assertEqual(last(*start, piece(51, low(2)), which(1)), [1, 0])

    def test_in_order_at_one_age_and_agreeing_at_another_is_not_enough(self):
        start = self.START + [piece(50, low(1)), claim(0, 0, 0)]
        self.assertEqual(last(*start, piece(49, low(2)), which(1)), [0])

    def test_a_piece_that_is_given_itself(self):
        start = self.START + [piece(50, low(0)), claim(0, 0, 0)]
        self.assertEqual(last(*start, which(0)), [2, 0, 1])
        self.assertEqual(last(*start, piece(40, low(3)), claim(1, 1, 0), which(0)), [2, 0, 1])
        self.assertEqual(last(*start, piece(60, low(3)), claim(1, 1, 0), which(0)), [1, 0])
        self.assertEqual(last(*start, piece(50, low(1)), claim(1, 0, 1), which(0)), [2, 0, 1])

    def test_no_such_piece(self):
        self.assertEqual(told_behind(self.START, which(0), which(100)), [[-3], [-3]])
        self.assertEqual(last(begin(1, 2), which(0)), [-3])


class ClaimTest(unittest.TestCase):
    def claimed(self, high, signs, ring, picture):
        return last(begin(high, signs), seal(ring), piece(50, picture), claim(0, 0, 0))

    def test_the_first_way_and_column(self):
        self.assertEqual(self.claimed(1, 3, low(0, 1, 2), low(1)), [0, 1])
        self.assertEqual(self.claimed(1, 3, low(0, 1, 2), low(2, 0)), [0, 2])
        self.assertEqual(self.claimed(1, 3, low(0, 1, 2), low(2, 1)), [1, 1])
        self.assertEqual(self.claimed(1, 3, low(0, 0, 0), low(0)), [0, 0])
        self.assertEqual(self.claimed(1, 3, low(0, 1, 2), low(*[2, 0, 1] * 4)), [0, 2])
        self.assertEqual(self.claimed(3, 2, [[0, 1, 1]] * 8, [[9, 9, 9]] * 12), [0, 0])

    def test_only_upside_down(self):
        self.assertEqual(self.claimed(2, 4, [[0, 1], [2, 3], [0, 0]], [[1, 0], [0, 0]]), [1, 2])
        self.assertEqual(self.claimed(3, 3, [[0, 1, 2], [1, 1, 0]], [[9, 9, 1], [2, 9, 9]]), [1, 0])

    def test_the_way_counts_ahead_of_the_column(self):
        # Upside down it agrees from column 0 on.
        self.assertEqual(self.claimed(1, 2, low(1, 0, 0, 1), low(0, 1, 1)), [0, 2])

    def test_it_is_the_named_age_that_counts(self):
        start = [begin(1, 3), seal(low(0, 1, 2)), cut(0, 0, 0, 2), cut(0, 2, 0, 0), piece(50, low(0)), piece(50, low(2))]
        # The ages are 0 1 2, 2 1 2 and 2 1 0.
        self.assertEqual(
            [last(*start, claim(0, 0, age)) for age in range(4)], [[0, 0], [-6], [0, 2], [-1]])
        self.assertEqual(
            [last(*start, claim(1, 0, age)) for age in range(4)], [[0, 2], [0, 0], [0, 0], [-1]])

    def test_it_is_given_to_that(self):
        told = told_behind(
            THREE_AGES, seal(low(1, 3)), piece(50, low(3)), claim(0, 0, 1), look(0), now(0), now(1), drop(0),
            claim(0, 1, 0), look(0), now(0), now(1))
        self.assertEqual(told, [
            [1], [0], [0, 0], [50, 1, 1, 0, 1, 3], [2, 1, 3, 2, 3, 4], [0, 0, 2, 1, 3], [0, 1],
            [0, 1], [50, 1, 1, 1, 0, 3], [2, 0, 3, 2, 3, 4], [0, 1, 2, 1, 3]])

    def test_in_order(self):
        start = THREE_AGES + [piece(50, low(2)), claim(0, 0, 1)]
        for year, expected in (
                (49, [[0, 2], [0, 2], [-7, 0]]), (50, [[0, 2]] * 3), (51, [[-7, 0], [0, 2], [0, 2]])):
            with self.subTest(year=year):
                self.assertEqual([last(*start, piece(year, low(2)), claim(1, 0, age)) for age in range(3)], expected)

    def test_of_several_the_lowest_number(self):
        start = THREE_AGES + [piece(year, low(9)) for year in (45, 50, 40, 60, 30, 55)]
        given = [claim(5, 0, 1), claim(3, 0, 2), claim(2, 0, 1), claim(1, 0, 1)]
        # Piece 0 is not in order with 2 at age 0, and not with 1 and 5 at age 2.
        self.assertEqual(last(*start, *given, claim(0, 0, 0)), [-7, 2])
        self.assertEqual(last(*start, *given, claim(0, 0, 2)), [-7, 1])
        self.assertEqual(last(*start, *given, claim(0, 0, 1)), [0, 0])
        self.assertEqual(last(*start, *given, claim(4, 0, 2)), [-7, 1])
        self.assertEqual(last(*start, *given, claim(4, 0, 0)), [0, 0])

    def test_the_lowest_number_behind_a_join(self):
        start = THREE_AGES + [piece(50, low(9))] * 3 + [join(2, 0, 0), piece(50, low(9)), piece(60, low(9))]
        self.assertEqual(
            told_behind(start, claim(3, 0, 2), claim(2, 0, 2), claim(4, 0, 0), drop(2), claim(4, 0, 0)),
            [[0, 0], [0, 0], [-7, 2], [0, 2], [-7, 3]])

    def test_pieces_given_to_another_seal_do_not_count(self):
        start = THREE_AGES + [seal(low(2)), piece(50, low(2)), claim(0, 0, 2), piece(60, low(2))]
        self.assertEqual(last(*start, claim(1, 0, 0)), [-7, 0])
        self.assertEqual(last(*start, claim(1, 1, 0)), [0, 0])

    def test_a_cut_behind_a_claim(self):
        start = [begin(1, 3), seal(low(0)), piece(50, low(0)), claim(0, 0, 0), cut(0, 0, 0, 1), piece(40, low(1))]
        told = told_behind(start, look(0), now(0), cuts(0), ages(0, 0), ages(0, 1), claim(1, 0, 1), cut(0, 0, 0, 2),
                           drop(0))
        self.assertEqual(told, [
            [50, 1, 1, 0, 0, 0], [1, 1, 1, 1], [1, 50, 100], [1, 0], [0], [-7, 0], [2], [0, 0]])

    def test_each_refusal(self):
        start = THREE_AGES + [piece(50, low(2)), claim(0, 0, 1), piece(60, low(2)), piece(60, low(0))]
        self.assertEqual(told_behind(start, claim(3, 0, 0), claim(100, 0, 0)), [[-3], [-3]])
        self.assertEqual(told_behind(start, claim(1, 1, 0), claim(1, 9, 0)), [[-2], [-2]])
        self.assertEqual(told_behind(start, claim(1, 0, 3), claim(1, 0, 9)), [[-1], [-1]])
        self.assertEqual(told_behind(start, claim(0, 0, 0), claim(0, 0, 1), claim(0, 0, 2)), [[-8]] * 3)
        self.assertEqual(told_behind(start, claim(2, 0, 1), claim(2, 0, 2)), [[-6]] * 2)
        self.assertEqual(told_behind(start, claim(1, 0, 0)), [[-7, 0]])

    def test_given_to_another_seal(self):
        start = THREE_AGES + [seal(low(2)), piece(50, low(2)), claim(0, 1, 0)]
        self.assertEqual(last(*start, claim(0, 0, 0)), [-8])

    def test_no_such_piece_counts_ahead_of_all(self):
        self.assertEqual(last(begin(1, 2), claim(0, 0, 0)), [-3])
        self.assertEqual(last(*THREE_AGES, claim(0, 1, 0)), [-3])
        self.assertEqual(last(*THREE_AGES, claim(0, 0, 3)), [-3])

    def test_no_such_seal_counts_ahead_of_the_next_ones(self):
        start = THREE_AGES + [piece(50, low(2))]
        self.assertEqual(last(*start, claim(0, 1, 9)), [-2])
        self.assertEqual(last(*start, claim(0, 0, 0), claim(0, 1, 0)), [-2])

    def test_no_such_age_counts_ahead_of_the_next_ones(self):
        start = THREE_AGES + [piece(50, low(2)), piece(50, low(4, 4))]
        self.assertEqual(last(*start, claim(0, 0, 0), claim(0, 0, 3)), [-1])
        self.assertEqual(last(*start, claim(1, 0, 3)), [-1])

    def test_given_counts_ahead_of_not_agreeing_and_of_order(self):
        start = THREE_AGES + [piece(50, low(0)), claim(0, 0, 0)]
        self.assertEqual(last(*start, claim(0, 0, 2)), [-8])
        start = THREE_AGES + [piece(50, low(2)), claim(0, 0, 1), piece(60, low(2)), claim(1, 0, 1)]
        self.assertEqual(last(*start, claim(1, 0, 0)), [-8])

    def test_not_agreeing_counts_ahead_of_order(self):
        start = THREE_AGES + [piece(50, low(2)), claim(0, 0, 1), piece(60, low(4))]
        self.assertEqual(last(*start, claim(1, 0, 0)), [-6])

    def test_nothing_changes_by_a_refusal(self):
        start = THREE_AGES + [piece(50, low(2)), claim(0, 0, 1), piece(60, low(2)), piece(60, low(0))]
        shown = [look(0), look(1), look(2), now(0), cuts(0), ages(0, 0), ages(0, 1), which(2)]
        expected = told_behind(start, *shown)
        for wrong in (claim(3, 0, 0), claim(1, 1, 0), claim(1, 0, 3), claim(0, 0, 2), claim(2, 0, 1), claim(1, 0, 0)):
            with self.subTest(wrong=wrong):
                told = told_behind(start, wrong, *shown, claim(1, 0, 1))
                self.assertLess(told[0][0], 0)
                self.assertEqual(told[1:], expected + [[0, 2]])


class DropTest(unittest.TestCase):
    START = THREE_AGES + [seal(low(2)), piece(50, low(2)), piece(60, low(2))]

    def test_to_which_it_was_given(self):
        for number, age in ((0, 0), (0, 1), (0, 2), (1, 0)):
            with self.subTest(seal=number, age=age):
                self.assertEqual(last(*self.START, claim(0, number, age), drop(0)), [number, age])

    def test_then_claim_again(self):
        told = told_behind(self.START, claim(0, 0, 2), claim(1, 0, 1), drop(0), claim(1, 0, 1), claim(0, 0, 2),
                           claim(0, 0, 1), look(0), drop(0), drop(1), claim(1, 1, 0), drop(1))
        self.assertEqual(told, [
            [0, 2], [-7, 0], [0, 2], [0, 2], [-7, 1], [0, 2], [50, 1, 1, 0, 1, 2], [0, 1], [0, 1], [0, 0], [1, 0]])

    def test_the_others_stay_given(self):
        told = told_behind(self.START, claim(0, 0, 1), claim(1, 0, 1), drop(0), look(0), look(1), now(0))
        self.assertEqual(told[2:], [[0, 1], [50, 1, 0, 2], [60, 1, 1, 0, 1, 2], [2, 1, 3, 2, 3, 4]])

    def test_not_given(self):
        told = told_behind(self.START, claim(1, 0, 0), drop(0), claim(0, 0, 0), drop(0), drop(0))
        self.assertEqual(told, [[0, 2], [-8], [0, 2], [0, 0], [-8]])

    def test_no_such_piece(self):
        self.assertEqual(told_behind(self.START, drop(2), drop(100)), [[-3], [-3]])

    def test_a_piece_that_is_gone(self):
        self.assertEqual(last(begin(1, 2), piece(1, low(0)), piece(1, low(0)), join(0, 1, 0), drop(1)), [-3])

    def test_nothing_changes_by_a_refusal(self):
        shown = [look(0), look(1), now(0), now(1), cuts(0)]
        start = self.START + [claim(1, 0, 1)]
        told = told_behind(start, *shown, drop(0), drop(2), *shown)
        self.assertEqual(told[5:7], [[-8], [-3]])
        self.assertEqual(told[:5], told[7:])


class CutsTest(unittest.TestCase):
    THREE_CUTS = [begin(1, 5), seal(low(4, 0)), cut(0, 1, 0, 1), cut(0, 1, 0, 2), cut(0, 1, 0, 3)]

    def given(self, *pieces):
        calls = []
        for number, (year, age) in enumerate(pieces):
            calls += [piece(year, low(4)), claim(number, 0, age)]
        return last(*self.THREE_CUTS, *calls, cuts(0))

    def test_never_cut(self):
        self.assertEqual(last(begin(1, 2), seal(low(0)), cuts(0)), [0])
        self.assertEqual(last(begin(1, 2), seal(low(0)), piece(1, low(0)), claim(0, 0, 0), cuts(0)), [0])

    def test_no_piece_given(self):
        self.assertEqual(self.given(), [3, 0, 100, 0, 100, 0, 100])
        self.assertEqual(last(*self.THREE_CUTS, piece(50, low(4)), cuts(0)), [3, 0, 100, 0, 100, 0, 100])

    def test_one_cut(self):
        start = [begin(1, 2), seal(low(0)), cut(0, 0, 0, 1), piece(30, low(0)), piece(40, low(1))]
        self.assertEqual(last(*start, cuts(0)), [1, 0, 100])
        self.assertEqual(last(*start, claim(0, 0, 0), cuts(0)), [1, 30, 100])
        self.assertEqual(last(*start, claim(1, 0, 1), cuts(0)), [1, 0, 40])
        self.assertEqual(last(*start, claim(1, 0, 1), claim(0, 0, 0), cuts(0)), [1, 30, 40])

    def test_none_before_or_none_behind(self):
        self.assertEqual(self.given((50, 0)), [3, 50, 100, 50, 100, 50, 100])
        self.assertEqual(self.given((50, 3)), [3, 0, 50, 0, 50, 0, 50])

    def test_an_age_on_either_side(self):
        self.assertEqual(self.given((50, 1)), [3, 0, 50, 50, 100, 50, 100])
        self.assertEqual(self.given((50, 2)), [3, 0, 50, 0, 50, 50, 100])
        self.assertEqual(self.given((40, 1), (60, 2)), [3, 0, 40, 40, 60, 60, 100])

    def test_at_all_ages(self):
        self.assertEqual(self.given((30, 3), (1, 0), (20, 2), (10, 1)), [3, 1, 10, 10, 20, 20, 30])

    def test_the_latest_before_and_the_earliest_behind(self):
        self.assertEqual(self.given((20, 0), (30, 0), (10, 0), (60, 1), (50, 1), (70, 1)),
                         [3, 30, 50, 70, 100, 70, 100])
        self.assertEqual(self.given((98, 3), (97, 3), (99, 3), (2, 0), (3, 0), (1, 0)), [3, 3, 97, 3, 97, 3, 97])

    def test_equal_years_at_whatever_ages(self):
        self.assertEqual(self.given((50, 3), (50, 0)), [3, 50, 50, 50, 50, 50, 50])

    def test_pieces_given_to_another_seal_do_not_count(self):
        start = self.THREE_CUTS + [seal(low(4)), cut(1, 0, 0, 0), piece(50, low(4)), piece(60, low(4))]
        told = told_behind(start, claim(0, 1, 0), claim(1, 0, 2), cuts(0), cuts(1))
        self.assertEqual(told[2:], [[3, 0, 60, 0, 60, 60, 100], [1, 50, 100]])

    def test_behind_drop_and_behind_a_further_cut(self):
        start = [begin(1, 3), seal(low(0)), cut(0, 0, 0, 1), piece(40, low(1)), claim(0, 0, 1)]
        told = told_behind(start, cuts(0), cut(0, 0, 0, 2), cuts(0), drop(0), cuts(0))
        self.assertEqual(told, [[1, 0, 40], [2], [2, 0, 40, 40, 100], [0, 1], [2, 0, 100, 0, 100]])

    def test_a_refused_cut_is_none(self):
        self.assertEqual(last(*self.THREE_CUTS, cut(0, 0, 0, 0), cuts(0)), [3, 0, 100, 0, 100, 0, 100])
        self.assertEqual(last(begin(1, 2), seal(low(0)), cut(0, 0, 0, 0), cuts(0)), [0])

    def test_no_such_seal(self):
        self.assertEqual(told_behind(self.THREE_CUTS, cuts(1), cuts(9)), [[-2], [-2]])
        self.assertEqual(last(begin(1, 2), cuts(0)), [-2])


class WholeSearchTest(unittest.TestCase):
    """What ages and which tell is just where claim is not refused, and where the words of the order hold."""

    def random_start(self, source):
        high = source.randint(1, 2)
        start = [begin(high, 2)]
        for count in range(3):
            start.append(seal([[source.randint(0, 1) for cell in range(high)] for column in range(source.randint(2, 4))]))
        for count in range(4):
            start.append(cut(source.randint(0, 2), source.randint(0, 2), source.randint(0, high - 1), source.randint(0, 1)))
        for count in range(5):
            picture = [[source.choice((0, 1, 9)) for cell in range(high)] for column in range(source.randint(1, 5))]
            start.append(piece(source.randint(1, 4), picture))
        for count in range(6):
            start.append(claim(source.randint(0, 4), source.randint(0, 2), source.randint(0, 2)))
        return start

    def given_pieces(self, start):
        """Each piece's year and what it is given to, (seal, age) or None."""
        found = []
        for told in told_behind(start, *[look(number) for number in range(5)]):
            found.append((told[0], tuple(told[3:5]) if told[2] else None))
        return found

    def is_in_order(self, pieces, number, seal_number, age):
        year = pieces[number][0]
        others = [(other_year, given[1]) for other, (other_year, given) in enumerate(pieces)
                  if other != number and given is not None and given[0] == seal_number]
        return not any((year < other_year and age > other_age) or (other_year < year and other_age > age)
                       for other_year, other_age in others)

    def check_piece(self, start, pieces, number):
        seals_told = []
        for seal_number in range(3):
            told = told_behind(start, ages(seal_number, number), fits(seal_number, number))
            if told[0] == [-2]:
                continue
            claimed = [age for age in range(4)
                       if last(*start, drop(number), claim(number, seal_number, age))[0] >= 0]
            self.assertEqual(told[0], [len(claimed)] + claimed)
            self.assertTrue(all(self.is_in_order(pieces, number, seal_number, age) for age in claimed))
            if told[1] != [0] and self.is_in_order(pieces, number, seal_number, told[1][1]):
                self.assertIn(told[1][1], claimed)
            if claimed:
                seals_told.append(seal_number)
        self.assertEqual(last(*start, which(number)), [len(seals_told)] + seals_told)

    def test_against_every_claim(self):
        source = random.Random(17)
        for turn in range(60):
            start = self.random_start(source)
            pieces = self.given_pieces(start)
            for number in range(5):
                with self.subTest(turn=turn, number=number):
                    self.check_piece(start, pieces, number)


if __name__ == "__main__":
    unittest.main()
