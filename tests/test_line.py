"""The interface: how calls are handed in and answered, and what holds for all of them."""

import unittest

from clayrings.trays import answers
from tests.lines import (
    ages, begin, claim, cut, cuts, drop, fits, join, last, least, line, look, low, now, piece, rebuilt, rolled, run,
    same, seal, split, which)

CALLS_BUT_BEGIN = [
    seal(low(0, 1)), cut(0, 0, 0, 1), same(1, low(0, 0)), piece(1, low(0)),
    fits(0, 0), least(0), rebuilt(0), join(0, 1, 0),
    ages(0, 0), which(0), claim(0, 0, 0), drop(0), cuts(0), look(0), now(0), rolled(0, 0, 0, 1, 0)]


class HandedIn:
    """What holds for any line: CALLS are handed in, TOLD is given back."""

    def test_each_answer_stands_behind_its_count(self):
        self.assertEqual(answers(list(self.CALLS)), self.TOLD)

    def test_what_is_handed_in_stays_as_it_was(self):
        calls = list(self.CALLS)
        answers(calls)
        self.assertEqual(calls, self.CALLS)

    def test_a_second_time_the_same_is_answered(self):
        calls = list(self.CALLS)
        self.assertEqual(answers(calls), answers(calls))

    def test_a_new_line_knows_nothing_of_the_one_before(self):
        answers(self.CALLS)
        self.assertEqual(answers(fits(0, 0)), [1, -9])
        self.assertEqual(run(begin(1, 2), piece(1, low(0)), fits(0, 0)), [[0], [0], [-2]])

    def test_what_is_given_back_is_a_new_list_of_whole_numbers(self):
        first = answers(self.CALLS)
        self.assertIs(type(first), list)
        self.assertEqual({type(number) for number in first}, {int})
        first.clear()
        self.assertEqual(answers(self.CALLS), self.TOLD)


class PicturesLineTest(HandedIn, unittest.TestCase):
    CALLS = [
        0, 2, 1, 3, 0,
        1, 0, 3, 1, 0, 1, 1, 1, 2,
        1, 0, 3, 1, 1, 1, 0, 1, 2,
        2, 4, 0, 1, 0, 2, 0,
        3, 1, 1, 2, 1, 0, 1, 0,
        4, 1, 50, 2, 1, 0, 1, 9,
        4, 1, 50, 2, 1, 1, 1, 2,
        5, 2, 0, 0, 0,
        5, 2, 9, 0, 0,
        6, 0, 1, 2, 0, 1,
        7, 0, 1, 2, 0, 1,
        6, 0, 1, 0,
        8, 3, 0, 1, -1, 0,
        8, 3, 0, 1, -2, 0,
        7, 0, 1, 1, 0]
    TOLD = [
        1, 0,
        1, 0,
        2, -4, 0,
        1, 1,
        1, 1,
        1, 0,
        1, 1,
        4, 4, 0, 0, 0,
        1, -2,
        3, 3, 0, 1,
        4, 3, 0, 1, 2,
        1, -1,
        1, 3,
        1, -3,
        4, 3, 0, 1, 2]


class GivenLineTest(HandedIn, unittest.TestCase):
    CALLS = [
        0, 2, 2, 4, 0,
        1, 0, 3, 2, 1, 0, 2, 2, 3, 2, 0, 0,
        1, 0, 1, 2, 1, 1,
        2, 4, 0, 2, 1, 3, 0,
        4, 1, 40, 2, 2, 0, 0, 2, 1, 0,
        4, 1, 60, 2, 2, 9, 0, 2, 9, 9,
        4, 1, 50, 1, 2, 1, 9,
        9, 2, 0, 0, 0,
        9, 2, 0, 1, 0,
        10, 1, 2, 0,
        11, 3, 0, 0, 0, 0,
        11, 3, 2, 0, 1, 0,
        9, 2, 0, 1, 0,
        11, 3, 1, 0, 0, 0,
        8, 3, 0, 1, 0, 0,
        13, 1, 0, 0,
        13, 1, 1, 0,
        14, 1, 2, 0,
        14, 1, 1, 0,
        15, 1, 0, 0,
        16, 5, 0, 0, 2, 4, 1, 0,
        16, 5, 0, 2, 2, 4, 1, 0,
        12, 1, 0, 0,
        12, 1, 0, 0,
        15, 1, 0, 0]
    TOLD = [
        1, 0,
        1, 0,
        1, 1,
        1, 1,
        1, 0,
        1, 1,
        1, 2,
        2, 1, 0,
        3, 2, 0, 1,
        3, 2, 0, 1,
        2, 0, 2,
        2, 0, 0,
        2, 1, 1,
        2, -7, 2,
        1, -8,
        3, 1, 40, 50,
        1, 0,
        7, 50, 1, 1, 0, 1, 1, 9,
        7, 60, 2, 0, 9, 0, 9, 9,
        9, 1, 2, 3, 0, 1, 3, 0, 3, 2,
        8, 0, 0, 3, 2, 0, 1, 0, 0,
        1, -1,
        2, 0, 0,
        1, -8,
        9, 1, 1, 3, 0, 1, 3, 0, 3, 2]


class LongLineTest(unittest.TestCase):
    def test_sixty_calls(self):
        calls = line(begin(3, 5), *[piece(99, [[4, 9, 0]] * 12) for turn in range(59)])
        expected = [[0]] + [[number] for number in range(6)] + [[-5]] * 53
        self.assertEqual(split(answers(calls)), expected)


class NoCollectionTest(unittest.TestCase):
    def test_every_call_but_begin_is_refused(self):
        for call in CALLS_BUT_BEGIN:
            with self.subTest(call=call):
                self.assertEqual(answers(call), [1, -9])

    def test_nothing_else_is_looked_at(self):
        wrong = [seal([]), cut(9, 20, 9, 9), same(0, []), piece(0, []), fits(9, 100),
                 least(), rebuilt(1, 1), join(5, 5, -20), ages(9, 100), which(100), claim(100, 9, 9), drop(100),
                 cuts(9), look(100), now(9), rolled(9, 9, 20, 20, 3)]
        self.assertEqual(run(*wrong), [[-9]] * len(wrong))

    def test_a_refused_begin_makes_none(self):
        self.assertEqual(run(begin(0, 2), seal(low(0))), [[-1], [-9]])
        self.assertEqual(run(begin(4, 2), least()), [[-1], [-9]])

    def test_begin_behind_refusals(self):
        self.assertEqual(run(*CALLS_BUT_BEGIN, begin(1, 2), seal(low(0))), [[-9]] * 16 + [[0], [0]])


class BeginTest(unittest.TestCase):
    def test_heights_and_signs(self):
        for high in range(10):
            for signs in range(10):
                expected = [0] if high in (1, 2, 3) and signs in (2, 3, 4, 5) else [-1]
                with self.subTest(high=high, signs=signs):
                    self.assertEqual(last(begin(high, signs)), expected)

    def test_height_and_signs_are_the_collections(self):
        for high in (1, 2, 3):
            for signs in (2, 3, 4, 5):
                with self.subTest(high=high, signs=signs):
                    told = run(
                        begin(high, signs),
                        seal([[signs - 1] * high]), seal([[signs] * high]),
                        seal([[0] * (high + 1)]), seal([[0] * (high - 1)]))
                    self.assertEqual(told, [[0], [0], [-1], [-1], [-1]])

    def test_seals_and_pieces_are_gone(self):
        told = run(
            begin(1, 2), seal(low(0)), piece(1, low(0)), piece(1, low(1)),
            begin(1, 2), fits(0, 0), least(0),
            seal(low(0)), fits(0, 0), piece(7, low(1)), fits(0, 0))
        self.assertEqual(told, [[0], [0], [0], [1], [0], [-2], [-3], [0], [-3], [0], [0]])

    def test_no_piece_is_given_and_no_seal_is_there(self):
        told = run(
            begin(1, 2), seal(low(0)), cut(0, 0, 0, 1), piece(1, low(0)), claim(0, 0, 0), now(0), look(0),
            begin(1, 2), ages(0, 0), claim(0, 0, 0), cuts(0), now(0), rolled(0, 0, 0, 1, 0), which(0), drop(0), look(0),
            seal(low(0)), piece(2, low(0)), now(0), cuts(0), look(0), drop(0), which(0), claim(0, 0, 0), now(0))
        self.assertEqual(told[5:], [
            [1, 1, 1, 1], [1, 1, 1, 0, 0, 0],
            [0], [-2], [-3], [-2], [-2], [-2], [-3], [-3], [-3],
            [0], [0], [0, 0, 1, 0], [0], [2, 1, 0, 0], [-8], [1, 0], [0, 0], [0, 1, 1, 0]])

    def test_a_refused_begin_drops_nothing(self):
        told = run(begin(1, 2), seal(low(0)), piece(1, low(0)), claim(0, 0, 0), begin(0, 0), look(0), now(0), drop(0))
        self.assertEqual(told[4:], [[-1], [1, 1, 1, 0, 0, 0], [0, 1, 1, 0], [0, 0]])

    def test_another_height_and_other_signs(self):
        told = run(begin(1, 2), seal([[4, 3, 2]]), begin(3, 5), seal([[4, 3, 2]]), seal(low(0)))
        self.assertEqual(told, [[0], [-1], [0], [0], [-1]])

    def test_a_refused_begin_changes_nothing(self):
        for wrong in (begin(0, 2), begin(4, 2), begin(1, 1), begin(1, 6), begin(9, 9)):
            with self.subTest(wrong=wrong):
                told = run(begin(1, 3), seal(low(0, 2)), piece(5, low(2)), wrong,
                           fits(0, 0), seal(low(2, 0)), piece(5, low(1)))
                self.assertEqual(told, [[0], [0], [0], [-1], [2, 0, 0, 1], [-4, 0], [1]])


if __name__ == "__main__":
    unittest.main()
