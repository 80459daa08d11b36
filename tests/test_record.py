"""Promise 1: record, add, drop, and that nothing else changes anything."""

import unittest

from line import DELETE, DOUBLE, DOWN, TOP, UP, ask, loop, piece, row_of, state, table, to_end, write

HUGE = 10 ** 18
FULL = ("record", row_of([DOWN] * 14))


def recorded(deeds):
    """A call that answers 1 only if these are the recording's deeds."""
    return ("is_it", row_of([piece(deed) for deed in deeds]))


class Record(unittest.TestCase):
    def test_every_kind_of_deed(self):
        deeds = [DOWN, UP, TOP, write(0, 5), [4, 1, -7], [5, 2], [6, 0], DELETE, DOUBLE, [9, 2, 0]]
        self.assertEqual(ask(("record", row_of(deeds)), recorded(deeds)), [[10], [1]])

    def test_takes_the_place_of_what_was(self):
        given = ask(("record", row_of([DOWN, UP])), ("record", row_of([TOP])), recorded([TOP]))
        self.assertEqual(given, [[2], [1], [1]])

    def test_no_deeds(self):
        self.assertEqual(ask(("record", [0]), recorded([])), [[0], [1]])
        self.assertEqual(ask(("record", [1, 0]), ("record", [0]), recorded([])), [[1], [0], [1]])

    def test_fourteen_and_fifteen(self):
        self.assertEqual(ask(FULL, recorded([DOWN] * 14)), [[14], [1]])
        self.assertEqual(ask(("record", row_of([DOWN] * 15))), [[-1]])
        longest = [write(2, -999)] * 14
        self.assertEqual(ask(("record", row_of(longest)), recorded(longest)), [[14], [1]])

    def test_edges_of_fields_and_numbers(self):
        for kind in (3, 4, 9):
            for field in (0, 1, 2):
                for number in (-999, -1, 0, 999):
                    deeds = [[kind, field, number]]
                    self.assertEqual(ask(("record", row_of(deeds)), recorded(deeds)), [[1], [1]])

    def test_refused(self):
        wrong = [
            [], [1], [2, 0], [1, 3], [1, 3, 0], [1, 5], [1, 6], [1, 9, 0],
            [0, 0], [1, 0, 0], [1, 5, 0, 0], [1, 3, 0, 0, 0], [2, 0, 0, 0],
            [-1], [-1, 0], [15], [HUGE], [-HUGE], [HUGE, 0],
            [1, -1], [1, 10], [1, HUGE], [1, -HUGE],
        ]
        for kind in (3, 4, 9):
            for number in (-1000, 1000, HUGE, -HUGE):
                wrong.append([1, kind, 0, number])
        for kind in (3, 4, 5, 6, 9):
            for field in (-1, 3, HUGE, -HUGE):
                wrong.append([1, kind, field] + ([0] if kind in (3, 4, 9) else []))
        before = [DOWN, write(1, 4)]
        for numbers in wrong:
            with self.subTest(numbers=numbers):
                given = ask(("record", row_of(before)), ("record", numbers), recorded(before))
                self.assertEqual(given, [[2], [-1], [1]])
                self.assertEqual(ask(("record", numbers), recorded([])), [[-1], [1]])

    def test_wrong_last_deed_leaves_all_as_it_was(self):
        given = ask(("record", row_of([UP])), ("record", [3, 0, 0, 10]), recorded([UP]))
        self.assertEqual(given, [[1], [-1], [1]])


class Add(unittest.TestCase):
    def test_is_the_last_one(self):
        deeds = [DOWN, write(0, 999), [5, 2], [9, 0, -999]]
        given = ask(*[("add", deed) for deed in deeds], recorded(deeds))
        self.assertEqual(given, [[1], [2], [3], [4], [1]])

    def test_behind_what_was_recorded(self):
        given = ask(("record", row_of([UP, UP])), ("add", TOP), recorded([UP, UP, TOP]))
        self.assertEqual(given, [[2], [3], [1]])

    def test_refused(self):
        wrong = [
            [], [-1], [10], [HUGE], [-HUGE], [0, 0], [1, 0],
            [3], [3, 0], [3, 0, 0, 0], [3, 0, 1000], [3, 0, -1000], [3, 0, HUGE], [3, 0, -HUGE],
            [3, 3, 0], [3, -1, 0], [4, HUGE, 0], [9, -HUGE, 0], [9, 0], [9, 0, 0, 0, 0],
            [5], [5, 3], [5, -1], [5, 0, 0], [6], [6, 3], [6, 0, 0], [7, 0], [8, 0],
        ]
        for deed in wrong:
            with self.subTest(deed=deed):
                given = ask(("add", UP), ("add", deed), recorded([UP]))
                self.assertEqual(given, [[1], [-1], [1]])

    def test_fourteen(self):
        thirteen = ("record", row_of([DOWN] * 13))
        given = ask(thirteen, ("add", DOWN), ("add", DOWN), recorded([DOWN] * 14))
        self.assertEqual(given, [[13], [14], [-6], [1]])

    def test_not_a_deed_comes_ahead_of_full(self):
        for deed in ([], [10], [0, 0], [3, 0, 1000]):
            self.assertEqual(ask(FULL, ("add", deed), recorded([DOWN] * 14)), [[14], [-1], [1]])

    def test_there_is_room_again_behind_a_drop(self):
        given = ask(FULL, ("add", UP), ("drop",), ("add", UP), recorded([DOWN] * 13 + [UP]))
        self.assertEqual(given, [[14], [-6], [13], [14], [1]])


class Drop(unittest.TestCase):
    def test_the_last_one_is_gone(self):
        given = ask(("record", row_of([UP, TOP, DOWN])), ("drop",), recorded([UP, TOP]), ("drop",), recorded([UP]))
        self.assertEqual(given, [[3], [2], [1], [1], [1]])

    def test_nothing_left(self):
        self.assertEqual(ask(("drop",), recorded([])), [[-2], [1]])
        given = ask(("add", UP), ("drop",), ("drop",), ("drop",), recorded([]), ("add", TOP), recorded([TOP]))
        self.assertEqual(given, [[1], [0], [-2], [-2], [1], [1], [1]])


class NothingElseChanges(unittest.TestCase):
    def test_asking_changes_nothing(self):
        deeds = [write(0, 5), DOWN, write(0, 6), DOWN]
        asked = [
            ("count",), ("least",), ("next_one",), ("loops",), ("told",),
            ("is_it", row_of([loop(2, piece(write(0, 5), 1), piece(DOWN))])), ("is_it", row_of([piece(UP)])),
            ("unroll", row_of([piece(UP)])), ("play", table([(0, 0, 0)] * 2)), ("play", table([])), ("play", [1]),
        ]
        for call in ("is_it", "unroll"):
            asked.extend([
                (call, []), (call, row_of([to_end(piece(UP))])), (call, row_of([loop(9, loop(9, piece(UP)))])),
            ])
        once = [
            [2], [3, 1, 1, 2, 2, 0, 3, 0, 5, 1, 0, 0], [1, 2, 4, 3, 0, 7], [1, 0, 2, 2], row_of(deeds),
            [1], [0, 0], [1, 1], [0, 4] + table([(5, 0, 0), (6, 0, 0)], 2), [1, 0] + table([]), [-1],
            [-1], [-4], [-7], [-1], [-4], [-7],
        ]
        given = ask(("record", row_of(deeds)), *asked, *asked, recorded(deeds))
        self.assertEqual(given, [[4]] + once + once + [[1]])
        for call in asked:
            self.assertEqual(state(("record", row_of(deeds)), call), state(("record", row_of(deeds))))
