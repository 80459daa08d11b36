"""told: the recording's deeds."""

import unittest

from line import DELETE, DOUBLE, DOWN, TOP, UP, add, ask, copy, find, paste, row_of, write


class Told(unittest.TestCase):
    def test_new(self):
        self.assertEqual(ask(("told",)), [[0]])
        self.assertEqual(ask(("record", [0]), ("told",)), [[0], [0]])

    def test_every_kind_of_deed(self):
        deeds = [DOWN, UP, TOP, write(0, 5), add(1, -7), copy(2), paste(0), DELETE, DOUBLE, find(2, 0)]
        self.assertEqual(ask(("record", row_of(deeds)), ("told",)), [[10], row_of(deeds)])

    def test_longest(self):
        deeds = [write(2, -999), find(0, 999)] * 7
        self.assertEqual(ask(("record", row_of(deeds)), ("told",)), [[14], row_of(deeds)])

    def test_follows_the_recording(self):
        given = ask(
            ("add", UP), ("told",), ("add", write(1, 2)), ("told",), ("drop",), ("told",), ("record", row_of([TOP])),
            ("told",), ("drop",), ("told",),
        )
        self.assertEqual(given[1::2], [row_of([UP]), row_of([UP, write(1, 2)]), row_of([UP]), row_of([TOP]), [0]])

    def test_refusals_leave_it(self):
        full = [copy(1)] * 14
        given = ask(
            ("drop",), ("told",), ("record", row_of(full)), ("add", UP), ("told",), ("add", [10]), ("told",),
            ("record", [1]), ("told",),
        )
        self.assertEqual(given, [[-2], [0], [14], [-6], row_of(full), [-1], row_of(full), [-1], row_of(full)])
