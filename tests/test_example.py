"""The document's example as one line, every call of it, and each call on a recording without deeds."""

import unittest

from line import ask


class Example(unittest.TestCase):
    def test_write_and_down_three_times(self):
        given = ask(
            ("record", [6, 3, 0, 5, 0, 3, 0, 6, 0, 3, 0, 7, 0]), ("count",), ("least",), ("next_one",), ("loops",),
            ("play", [3, 0, 0, 0, 0, 0, 0, 0, 0, 0, 0, 0]), ("is_it", [1, 1, 2, 2, 0, 3, 0, 5, 1, 0, 0]),
        )
        self.assertEqual(given, [
            [6], [5], [3, 1, 1, 3, 2, 0, 3, 0, 5, 1, 0, 0], [1, 2, 6, 3, 0, 8], [3, 0, 2, 3, 1, 2, 2, 2, 2, 2],
            [0, 6, 3, 5, 0, 0, 6, 0, 0, 7, 0, 0, 3, 0], [0, 4],
        ])

    def test_down_down_up(self):
        given = ask(("record", [6, 0, 0, 1, 0, 0, 1]), ("count",), ("least",), ("next_one",))
        self.assertEqual(given, [[6], [6], [4, 1, 1, 2, 3, 0, 0, 0, 0, 0, 1], [1, 3, 6, 0]])
        self.assertEqual(ask(("record", [5, 0, 0, 1, 0, 0]), ("next_one",)), [[5], [1, 3, 5, 1]])

    def test_without_deeds(self):
        given = ask(
            ("drop",), ("count",), ("least",), ("is_it", [0]), ("unroll", [0]), ("next_one",), ("loops",),
            ("play", [0, 0, 0]), ("told",),
        )
        self.assertEqual(given, [[-2], [1], [0, 0], [1], [0], [0], [0], [0, 0, 0, 0, 0], [0]])
