"""Promise 2: what a program is, and the refusals of is and unroll, which are the same."""

import unittest

from line import DOWN, TOP, UP, ask, loop, part, piece, row_of, state, to_end, write

HUGE = 10 ** 18
RECORD = ("record", row_of([UP, write(0, 1)]))


class Refused(unittest.TestCase):
    def check(self, program, refusal):
        for call in ("is_it", "unroll"):
            with self.subTest(call=call, program=program):
                self.assertEqual(ask(RECORD, (call, program))[1], [refusal])
                self.assertEqual(state(RECORD, (call, program)), state(RECORD))

    def check_passes(self, program):
        for call in ("is_it", "unroll"):
            with self.subTest(call=call, program=program):
                self.assertGreaterEqual(ask((call, program))[0][0], 0)

    def test_ends_too_early(self):
        whole = row_of([loop(2, piece(write(0, 5), 1), piece([5, 1]), loop(3, piece(DOWN)))])
        self.check_passes(whole)
        for end in range(len(whole)):
            self.check(whole[:end], -1)
        bound = row_of([to_end(part(1, 5, piece(UP)))])
        for end in range(len(bound)):
            self.check(bound[:end], -1)

    def test_left_over(self):
        for program in ([0], row_of([piece(UP)]), row_of([loop(2, piece(write(0, 1), 1))])):
            self.check_passes(program)
            self.check(program + [0], -1)
            self.check(program + piece(UP), -1)
        self.check(row_of([to_end(piece(UP))]) + [0], -1)
        self.check([1, 0, 0, 0], -1)

    def test_no_such_piece(self):
        for kind in (-1, 4, HUGE, -HUGE):
            self.check([1, kind, 0], -1)
            self.check([1, kind, 2, 1, 0, 0], -1)

    def test_counts(self):
        for count in (-1, 17, HUGE, -HUGE):
            self.check([count], -1)
            self.check([count, 0, 0], -1)
            self.check([1, 1, 2, count], -1)

    def test_deeds_within(self):
        for deed in ([10], [-1], [HUGE], [5, 3], [5, -1], [6, HUGE], [7, 0]):
            self.check([1, 0] + deed, -1)
        for kind in (3, 4, 9):
            for field, number, step in ((0, 999, 999), (2, -999, -999), (1, 0, 0)):
                self.check_passes([1, 0, kind, field, number, step])
            for number in (-1000, 1000, HUGE, -HUGE):
                self.check([1, 0, kind, 0, number, 0], -1)
                self.check([1, 0, kind, 0, 0, number], -1)
            for field in (-1, 3, HUGE, -HUGE):
                self.check([1, 0, kind, field, 0, 0], -1)

    def test_a_step_only_with_a_number(self):
        self.check([1, 0, 3, 0, 5], -1)
        self.check([1, 0, 5, 0, 1], -1)
        self.check([1, 0, 0, 1], -1)

    def test_rounds(self):
        for rounds in (1, 2, 9):
            self.check_passes(row_of([loop(rounds, piece(UP))]))
        for rounds in (0, 10, -1, HUGE, -HUGE):
            self.check(row_of([loop(rounds, piece(UP))]), -1)
            self.check(row_of([loop(rounds)]), -1)

    def test_parts_within_their_ranges(self):
        for field, number in ((0, -999), (2, 999), (1, 0)):
            self.check(row_of([part(field, number, piece(UP))]), -4)
        for field, number in ((-1, 0), (3, 0), (HUGE, 0), (0, 1000), (0, -1000), (0, -HUGE)):
            self.check(row_of([part(field, number, piece(UP))]), -1)

    def test_sixteen_pieces_and_seventeen(self):
        self.check_passes(row_of([piece(UP)] * 16))
        self.check(row_of([piece(UP)] * 17), -1)
        self.check_passes(row_of([loop(2, *[piece(UP)] * 15)]))
        self.check(row_of([loop(2, *[piece(UP)] * 16)]), -1)
        self.check_passes(row_of([loop(1, piece(UP), piece(UP), loop(1, *[piece(UP)] * 5))] + [piece(UP)] * 7))
        self.check(row_of([loop(1, piece(UP), piece(UP), loop(1, *[piece(UP)] * 5))] + [piece(UP)] * 8), -1)
        self.check_passes(row_of([loop(1)] * 16))
        self.check(row_of([loop(1)] * 17), -1)
        self.check(row_of([loop(1, loop(1))] * 9), -1)
        self.check(row_of([to_end(*[piece(UP)] * 15)]), -4)
        self.check(row_of([to_end(*[piece(UP)] * 16)]), -1)
        self.check(row_of([part(0, 0, *[piece(UP)] * 15)]), -4)
        self.check(row_of([part(0, 0, *[piece(UP)] * 16)]), -1)

    def test_three_deep_and_four(self):
        self.check_passes(row_of([loop(1, loop(1, loop(1, piece(UP))))]))
        self.check_passes(row_of([loop(1, loop(1, loop(1)))]))
        self.check(row_of([loop(1, loop(1, loop(1, loop(1, piece(UP)))))]), -1)
        self.check(row_of([loop(1, loop(1, loop(1, loop(1))))]), -1)
        self.check(row_of([loop(1, to_end(part(0, 0, piece(UP))))]), -4)
        self.check(row_of([part(0, 0, loop(1, part(0, 0, piece(UP))))]), -4)
        self.check(row_of([loop(1, to_end(part(0, 0, to_end())))]), -1)
        self.check(row_of([to_end(loop(1, loop(1, part(0, 0, piece(UP)))))]), -1)
        self.check(row_of([part(0, 0, part(0, 0, part(0, 0, loop(2, piece(UP)))))]), -1)

    def test_sixty_deep(self):
        self.check([number for level in range(60) for number in (1, 2)], -1)
        self.check([number for level in range(59) for number in (1, 2)] + [1, 0], -1)
        self.check([number for level in range(39) for number in (1, 1, 2)] + [0], -1)

    def test_bound_to_the_table(self):
        self.check(row_of([to_end(piece(UP))]), -4)
        self.check(row_of([to_end()]), -4)
        self.check(row_of([part(0, 0)]), -4)
        self.check(row_of([piece(TOP), loop(2, piece(UP), loop(3, part(2, 9, piece(UP))))]), -4)
        self.check(row_of([loop(2, loop(3, to_end(piece(UP)))), piece(TOP)]), -4)

    def test_sixty_told_and_sixty_one(self):
        sixty = [loop(9, *[piece(UP)] * 6), loop(3, piece(UP), piece(UP))]
        self.check_passes(row_of(sixty))
        self.check(row_of(sixty + [piece(UP)]), -7)
        self.check_passes(row_of([loop(5, loop(4, loop(3, piece(UP))))]))
        self.check(row_of([piece(UP), loop(5, loop(4, loop(3, piece(UP))))]), -7)
        self.check(row_of([loop(9, loop(9, loop(9, *[piece(write(0, 999), 999)] * 13)))]), -7)

    def test_order(self):
        much = loop(9, loop(9, piece(UP)))
        self.check(row_of([much, to_end(piece(UP))]), -4)
        self.check(row_of([much, part(0, 0, piece(UP))]), -4)
        self.check(row_of([much]) + [0], -1)
        self.check(row_of([to_end(piece(UP))] + [piece(UP)] * 15), -1)
        self.check(row_of([to_end(piece([10]))]), -1)
        self.check(row_of([much] + [piece(UP)] * 14), -1)
