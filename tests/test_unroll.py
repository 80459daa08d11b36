"""unroll: the deeds that a program tells. Its refusals are tested with those of is."""

import itertools
import unittest

from line import DELETE, DOUBLE, DOWN, TOP, UP, add, ask, copy, find, loop, paste, piece, row_of, write


class Unroll(unittest.TestCase):
    def check(self, pieces, deeds):
        self.assertEqual(ask(("unroll", row_of(pieces))), [row_of(deeds)])

    def test_no_pieces(self):
        self.assertEqual(ask(("unroll", [0])), [[0]])
        self.check([loop(9), loop(3, loop(2))], [])

    def test_list_that_holds_nothing(self):
        self.assertEqual(ask(("unroll", [])), [[-1]])

    def test_every_kind_of_deed(self):
        deeds = [DOWN, UP, TOP, write(0, 5), add(1, -7), copy(2), paste(0), DELETE, DOUBLE, find(2, 0)]
        self.check([piece(deed) for deed in deeds], deeds)

    def test_example(self):
        deeds = [write(0, 5), DOWN, write(0, 6), DOWN, write(0, 7), DOWN]
        self.assertEqual(ask(("unroll", [1, 1, 3, 2, 0, 3, 0, 5, 1, 0, 0])), [row_of(deeds)])

    def test_steps_count_within_loops_alone(self):
        self.check([piece(write(0, 5), 3), piece(write(0, 5), 3)], [write(0, 5)] * 2)
        self.check([loop(1, piece(write(0, 5), 3))], [write(0, 5)])
        self.check([loop(3, piece(add(1, 0), -4))], [add(1, 0), add(1, -4), add(1, -8)])

    def test_the_innermost_loop_numbers_the_rounds(self):
        inner = loop(3, piece(find(2, 9), -1))
        told = [find(2, 9), find(2, 8), find(2, 7)]
        self.check(
            [loop(2, piece(write(0, 1), 5), inner, piece(write(1, 1), 5)), piece(write(2, 1), 5)],
            [write(0, 1)] + told + [write(1, 1), write(0, 6)] + told + [write(1, 6), write(2, 1)],
        )

    def test_three_deep(self):
        self.check([loop(2, loop(2, loop(2, piece(write(0, 0), 1))))], [write(0, 0), write(0, 1)] * 4)

    def test_numbers_beyond_999(self):
        self.check([loop(9, piece(write(0, 999), 999))], [write(0, 999 * turn) for turn in range(1, 10)])
        self.check([loop(9, piece(write(0, -999), -999))], [write(0, -999 * turn) for turn in range(1, 10)])

    def test_sixty_deeds(self):
        self.check([loop(5, loop(4, loop(3, piece(write(2, 7)))))], [write(2, 7)] * 60)
        self.check([loop(9, *[piece(UP)] * 6), loop(3, piece(DOWN), piece(DOWN))], [UP] * 54 + [DOWN] * 6)

    def test_not_bound_to_the_recording(self):
        program = row_of([loop(2, piece(UP), piece(TOP))])
        given = ask(("record", row_of([DOWN] * 14)), ("unroll", program), ("told",))
        self.assertEqual(given[1:], [row_of([UP, TOP, UP, TOP]), row_of([DOWN] * 14)])

    def test_the_least_folding_tells_the_recording(self):
        for deeds in itertools.product((DOWN, write(0, 1), write(0, 2)), repeat=6):
            record = ("record", row_of(deeds))
            least = ask(record, ("least",))[1][1:]
            self.assertEqual(ask(record, ("unroll", least), ("told",))[1:], [row_of(deeds)] * 2)
