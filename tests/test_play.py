"""Promise 3 and play: tables, each deed and its faults, and how a run ended."""

import unittest

from line import DELETE, DOUBLE, DOWN, TOP, UP, add, ask, copy, find, paste, row_of, state, table, write

HUGE = 10 ** 18
THREE = [(1, 2, 3), (4, 5, 6), (7, 8, 9)]


def play(deeds, handed):
    return ask(("record", row_of(deeds)), ("play", handed))[1]


class Deeds(unittest.TestCase):
    """One deed each, done or at fault; at fault the table stays."""

    def done(self, deed, before, after):
        self.assertEqual(play([deed], table(*before)), [0, 1] + table(*after))

    def at_fault(self, fault, deed, *before):
        self.assertEqual(play([deed], table(*before)), [fault, 0] + table(*before))

    def test_down(self):
        self.done(DOWN, (THREE, 0, 9), (THREE, 1, 9))
        self.done(DOWN, (THREE, 2, 9), (THREE, 3, 9))
        self.at_fault(1, DOWN, THREE, 3, 9)
        self.at_fault(1, DOWN, [], 0, 9)

    def test_up(self):
        self.done(UP, (THREE, 3, 9), (THREE, 2, 9))
        self.done(UP, (THREE, 1, 9), (THREE, 0, 9))
        self.at_fault(2, UP, THREE, 0, 9)
        self.at_fault(2, UP, [], 0, 9)

    def test_top(self):
        for cursor in range(4):
            self.done(TOP, (THREE, cursor, 9), (THREE, 0, 9))
        self.done(TOP, ([], 0, 9), ([], 0, 9))

    def test_write(self):
        self.done(write(0, -999), (THREE, 0, 9), ([(-999, 2, 3)] + THREE[1:], 0, 9))
        self.done(write(1, 999), (THREE, 1, 9), ([(1, 2, 3), (4, 999, 6), (7, 8, 9)], 1, 9))
        self.done(write(2, 0), (THREE, 2, 9), (THREE[:2] + [(7, 8, 0)], 2, 9))
        self.at_fault(1, write(0, 5), THREE, 3)
        self.at_fault(1, write(0, 5), [])

    def test_add(self):
        self.done(add(0, 5), (THREE, 0, 9), ([(6, 2, 3)] + THREE[1:], 0, 9))
        self.done(add(1, -9), (THREE, 1, 9), ([(1, 2, 3), (4, -4, 6), (7, 8, 9)], 1, 9))
        self.done(add(2, 0), (THREE, 2, 9), (THREE, 2, 9))
        self.at_fault(1, add(0, 5), THREE, 3)
        self.at_fault(1, add(0, 999), [])

    def test_add_at_the_edges(self):
        self.done(add(0, 998), ([(1, 0, 0)],), ([(999, 0, 0)],))
        self.at_fault(3, add(0, 999), [(1, 0, 0)])
        self.done(add(1, -998), ([(0, -1, 0)],), ([(0, -999, 0)],))
        self.at_fault(3, add(1, -999), [(0, -1, 0)])
        self.done(add(2, 999), ([(0, 0, -999)],), ([(0, 0, 0)],))
        self.at_fault(3, add(2, 999), [(0, 0, 999)], 0, 7)
        self.at_fault(3, add(2, -1), [(0, 0, -999)], 0, 7)

    def test_copy(self):
        for field in range(3):
            self.done(copy(field), (THREE, 1, 99), (THREE, 1, 4 + field))
        self.at_fault(1, copy(0), THREE, 3, 99)
        self.at_fault(1, copy(2), [], 0, 99)

    def test_paste(self):
        self.done(paste(0), (THREE, 0, 99), ([(99, 2, 3)] + THREE[1:], 0, 99))
        self.done(paste(1), (THREE, 1, -999), ([(1, 2, 3), (4, -999, 6), (7, 8, 9)], 1, -999))
        self.done(paste(2), (THREE, 2, 0), (THREE[:2] + [(7, 8, 0)], 2, 0))
        self.at_fault(1, paste(0), THREE, 3, 99)
        self.at_fault(1, paste(2), [], 0, 99)

    def test_delete(self):
        self.done(DELETE, (THREE, 0, 9), (THREE[1:], 0, 9))
        self.done(DELETE, (THREE, 1, 9), ([THREE[0], THREE[2]], 1, 9))
        self.done(DELETE, (THREE, 2, 9), (THREE[:2], 2, 9))
        self.done(DELETE, (THREE[:1], 0, 9), ([], 0, 9))
        self.at_fault(1, DELETE, THREE, 3, 9)
        self.at_fault(1, DELETE, [], 0, 9)

    def test_double(self):
        self.done(DOUBLE, (THREE, 0, 9), ([THREE[0]] + THREE, 0, 9))
        self.done(DOUBLE, (THREE, 2, 9), (THREE + [THREE[2]], 2, 9))
        self.at_fault(1, DOUBLE, THREE, 3, 9)
        self.at_fault(1, DOUBLE, [], 0, 9)

    def test_double_of_seven_rows_and_of_eight(self):
        rows = [(row, 0, 0) for row in range(8)]
        self.done(DOUBLE, (rows[:7], 6, 9), (rows[:7] + [rows[6]], 6, 9))
        self.at_fault(4, DOUBLE, rows, 0, 9)
        self.at_fault(4, DOUBLE, rows, 7, 9)
        # No row here comes ahead of 8 rows.
        self.at_fault(1, DOUBLE, rows, 8, 9)

    def test_find(self):
        rows = [(1, 0, 7), (2, 7, 0), (7, 0, 0), (2, 7, -999), (7, 0, 999)]
        self.done(find(0, 7), (rows, 0), (rows, 2))
        self.done(find(0, 7), (rows, 2), (rows, 4))
        self.done(find(0, 7), (rows, 3), (rows, 4))
        self.done(find(1, 7), (rows, 0), (rows, 1))
        self.done(find(1, 7), (rows, 1), (rows, 3))
        self.done(find(2, -999), (rows, 1), (rows, 3))
        self.done(find(2, 999), (rows, 1), (rows, 4))

    def test_find_not_here_and_not_further_up(self):
        rows = [(1, 0, 7), (2, 7, 0), (7, 0, 0)]
        self.at_fault(5, find(2, 7), rows, 0, 9)
        self.at_fault(5, find(0, 2), rows, 2, 9)
        self.at_fault(5, find(0, 7), rows, 2, 9)
        self.at_fault(5, find(0, 7), rows, 3, 9)
        self.at_fault(5, find(0, 3), rows, 0, 9)
        self.at_fault(5, find(1, 1), rows, 0, 9)
        self.at_fault(5, find(0, 0), [], 0, 9)


class Runs(unittest.TestCase):
    def test_of_the_document(self):
        deeds = [write(0, 5), DOWN, write(0, 6), DOWN, write(0, 7), DOWN]
        given = play(deeds, [3] + [0] * 11)
        self.assertEqual(given, [0, 6, 3, 5, 0, 0, 6, 0, 0, 7, 0, 0, 3, 0])

    def test_new(self):
        for handed in (table([]), table([], 0, -7), table(THREE, 3, 999), table(THREE, 1, 0)):
            self.assertEqual(ask(("play", handed)), [[0, 0] + handed])

    def test_what_was_done_till_the_fault_stays(self):
        for fault, last, before in (
            (1, write(0, 1), [DOWN, DOWN]), (1, DELETE, [DOWN, DELETE]), (2, UP, [DOWN, UP]),
            (3, add(1, 1), [DOWN, write(1, 999)]), (5, find(0, 8), [write(0, 8)]),
        ):
            handed = table([(1, 2, 3), (4, 5, 6)], 0, 7)
            well = play(before, handed)
            self.assertEqual(well[:2], [0, len(before)])
            self.assertEqual(play(before + [last], handed), [fault] + well[1:])
            self.assertEqual(play(before + [last, TOP, TOP], handed), [fault] + well[1:])

    def test_fault_in_a_later_round_of_the_least_folding(self):
        deeds = [write(0, 5), DOWN, write(0, 6), DOWN, write(0, 7), DOWN]
        rows = [(0, 0, 0), (0, 0, 0)]
        self.assertEqual(play(deeds, table(rows)), [1, 4] + table([(5, 0, 0), (6, 0, 0)], 2))

    def test_rows_that_were_doubled_are_changed_each_on_its_own(self):
        deeds = [DOUBLE, write(0, 9), DOWN, write(1, 9)]
        self.assertEqual(play(deeds, table([(1, 2, 3)])), [0, 4] + table([(9, 2, 3), (1, 9, 3)], 1))

    def test_eight_rows_are_full(self):
        self.assertEqual(play([DOUBLE] * 9, table([(1, 2, 3)])), [4, 7] + table([(1, 2, 3)] * 8))
        given = play([DOUBLE, DELETE, DOUBLE], table([(1, 2, 3)] * 7))
        self.assertEqual(given, [0, 3] + table([(1, 2, 3)] * 8))

    def test_values_go_round_by_the_clipboard(self):
        deeds = [copy(0), paste(2), DOWN, paste(1), copy(2), TOP, paste(0)]
        given = play(deeds, table([(1, 2, 3), (4, 5, 6)], 0, 50))
        self.assertEqual(given, [0, 7] + table([(6, 2, 1), (4, 1, 6)], 0, 6))

    def test_steps_of_the_least_folding(self):
        deeds = [add(0, 1), add(0, 3), add(0, 5), add(0, 7)]
        self.assertEqual(play(deeds, table([(0, 0, 0)])), [0, 4] + table([(16, 0, 0)]))
        self.assertEqual(play(deeds, table([(990, 0, 0)])), [3, 3] + table([(999, 0, 0)]))

    def test_fourteen_deeds(self):
        self.assertEqual(play([add(2, 1)] * 14, table([(0, 0, 0)])), [0, 14] + table([(0, 0, 14)]))
        self.assertEqual(play([TOP] * 14, table([])), [0, 14] + table([]))

    def test_follows_the_recording(self):
        handed = ("play", table(THREE))
        given = ask(("add", DOWN), handed, ("add", DOWN), handed, ("drop",), handed)
        self.assertEqual(given[1::2], [[0, turn] + table(THREE, turn) for turn in (1, 2, 1)])

    def test_each_play_is_on_its_own_table(self):
        handed = ("play", table(THREE))
        given = ask(("record", row_of([DELETE, write(0, 0)])), handed, handed)
        self.assertEqual(given[1:], [[0, 2] + table([(0, 5, 6), (7, 8, 9)])] * 2)


class Refused(unittest.TestCase):
    def check(self, handed):
        record = ("record", row_of([DOWN, write(0, 1)]))
        with self.subTest(handed=handed):
            self.assertEqual(ask(record, ("play", handed))[1], [-1])
            self.assertEqual(state(record, ("play", handed)), state(record))

    def check_passes(self, handed):
        with self.subTest(handed=handed):
            self.assertEqual(ask(("play", handed)), [[0, 0] + handed])

    def test_ends_too_early_or_too_late(self):
        for whole in (table([]), table(THREE), table([(0, 0, 0)] * 8, 8)):
            self.check_passes(whole)
            for end in range(len(whole)):
                self.check(whole[:end])
            self.check(whole + [0])
            self.check(whole + [0, 0, 0])
        self.check([0] * 40)

    def test_how_many_rows(self):
        self.check_passes(table([(0, 0, 0)] * 8))
        self.check(table([(0, 0, 0)] * 9))
        for rows in (-1, 9, HUGE, -HUGE):
            self.check([rows, 0, 0])
            self.check([rows] + [0] * 29)
        self.check([2] + [0] * 5)
        self.check([1] + [0] * 8)

    def test_values(self):
        for place in range(9):
            for value in (-999, 999):
                values = [0] * place + [value] + [0] * (8 - place)
                self.check_passes([3] + values + [0, 0])
            for value in (-1000, 1000, HUGE, -HUGE):
                values = [0] * place + [value] + [0] * (8 - place)
                self.check([3] + values + [0, 0])

    def test_cursor(self):
        for rows in range(9):
            for cursor in range(rows + 1):
                self.check_passes(table([(1, 2, 3)] * rows, cursor))
            for cursor in (-1, rows + 1, HUGE, -HUGE):
                self.check(table([(1, 2, 3)] * rows, cursor))

    def test_clipboard(self):
        for clipboard in (-999, 0, 999):
            self.check_passes(table(THREE, 0, clipboard))
        for clipboard in (-1000, 1000, HUGE, -HUGE):
            self.check(table(THREE, 0, clipboard))
            self.check(table([], 0, clipboard))
