"""is: whether a program tells just the recording's deeds. Its refusals are tested with unroll's."""

import unittest

from line import DOWN, UP, ask, loop, piece, row_of, write


def is_it(deeds, program):
    return ask(("record", row_of(deeds)), ("is_it", program))[1]


class Tells(unittest.TestCase):
    def test_example(self):
        deeds = [write(0, 5), DOWN, write(0, 6), DOWN, write(0, 7), DOWN]
        self.assertEqual(is_it(deeds, [1, 1, 2, 2, 0, 3, 0, 5, 1, 0, 0]), [0, 4])
        self.assertEqual(is_it(deeds, [1, 1, 3, 2, 0, 3, 0, 5, 1, 0, 0]), [1])

    def test_new(self):
        self.assertEqual(ask(("is_it", [0])), [[1]])
        self.assertEqual(ask(("is_it", row_of([piece(DOWN)]))), [[0, 0]])
        self.assertEqual(ask(("is_it", [])), [[-1]])

    def test_first_place_that_differs(self):
        deeds = [DOWN, write(1, 4), UP]
        for place, told in (
            (0, [UP, write(1, 4), UP]), (1, [DOWN, write(1, 5), UP]), (1, [DOWN, write(2, 4), UP]),
            (1, [DOWN, [4, 1, 4], UP]), (1, [DOWN, [5, 1], UP]), (2, [DOWN, write(1, 4), DOWN]),
            (0, [UP, DOWN, DOWN]), (0, []), (2, [DOWN, write(1, 4)]), (3, deeds + [UP]), (1, [DOWN, UP]),
        ):
            self.assertEqual(is_it(deeds, row_of([piece(deed) for deed in told])), [0, place])

    def test_step_outside_of_loops_does_nothing(self):
        self.assertEqual(is_it([write(0, 5), write(0, 5)], row_of([piece(write(0, 5), 3)] * 2)), [1])

    def test_rounds_are_numbered_from_0_and_steps_may_fall(self):
        deeds = [write(2, 10), write(2, 7), write(2, 4)]
        self.assertEqual(is_it(deeds, row_of([loop(3, piece(write(2, 10), -3))])), [1])

    def test_only_the_innermost_loop_counts(self):
        inner = loop(2, piece(write(0, 1), 1))
        program = row_of([loop(2, piece(write(1, 0), 5), inner, piece([9, 2, 9], -1)), piece(write(0, 1), 7)])
        one = [write(0, 1), write(0, 2)]
        deeds = [write(1, 0)] + one + [[9, 2, 9], write(1, 5)] + one + [[9, 2, 8], write(0, 1)]
        self.assertEqual(is_it(deeds, program), [1])

    def test_outer_round_goes_on_behind_an_inner_loop_of_another_count(self):
        program = row_of([loop(2, loop(3, piece(UP)), piece([4, 0, 0], 1))])
        deeds = [UP, UP, UP, [4, 0, 0], UP, UP, UP, [4, 0, 1]]
        self.assertEqual(is_it(deeds, program), [1])

    def test_numbers_may_grow_beyond_999(self):
        program = row_of([loop(2, piece(write(0, 999), 1))])
        self.assertEqual(is_it([write(0, 999)], program), [0, 1])
        self.assertEqual(is_it([write(0, 999), write(0, 999)], program), [0, 1])
        self.assertEqual(is_it([], row_of([loop(9, piece(write(0, -999), -999))])), [0, 0])

    def test_not_only_foldings_are_asked(self):
        deeds = [DOWN] * 8
        self.assertEqual(is_it(deeds, row_of([loop(2, loop(2, loop(2, piece(DOWN))))])), [1])
        self.assertEqual(is_it(deeds, row_of([loop(1, *[piece(DOWN)] * 8)])), [1])

    def test_loops_without_pieces_tell_nothing(self):
        self.assertEqual(is_it([], row_of([loop(9), loop(3, loop(2))])), [1])
        self.assertEqual(is_it([UP], row_of([loop(9), piece(UP), loop(1)])), [1])

    def test_loops_of_one_round_to_nine(self):
        for rounds in (1, 2, 9):
            self.assertEqual(is_it([UP] * rounds, row_of([loop(rounds, piece(UP))])), [1])

    def test_sixty_told(self):
        sixty = row_of([loop(9, *[piece(UP)] * 6), loop(3, piece(UP), piece(UP))])
        self.assertEqual(is_it([UP] * 14, sixty), [0, 14])
        self.assertEqual(is_it([DOWN], sixty), [0, 0])
