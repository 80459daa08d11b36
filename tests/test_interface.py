"""What answers takes and gives back, whatever the calls are."""

import unittest

from line import DOWN, UP, ask, lay, loop, piece, row_of, table, write
from loopsfound.recording import answers

LINE = lay([
    ("record", row_of([write(0, 5), DOWN, write(0, 6), DOWN])), ("add", write(0, 7)), ("add", DOWN), ("count",),
    ("least",), ("is_it", row_of([loop(3, piece(write(0, 5), 1), piece(DOWN))])), ("drop",), ("record", []),
    ("add", []), ("is_it", []), ("is_it", [1, 2, 1, 0, 0]), ("is_it", row_of([loop(9, loop(9, piece(UP)))])),
    ("least",), ("next_one",), ("loops",), ("play", table([(0, 0, 0)] * 2)), ("play", []),
    ("unroll", row_of([loop(2, piece(write(1, 8), 3))])), ("unroll", []), ("told",),
])
GIVEN = [
    1, 4, 1, 5, 1, 6, 1, 5, 12, 3, 1, 1, 3, 2, 0, 3, 0, 5, 1, 0, 0, 1, 1, 1, 5, 1, -1, 1, -1, 1, -1, 1, -4, 1, -7,
    17, 4, 2, 0, 3, 0, 5, 0, 1, 2, 2, 0, 0, 0, 3, 0, 6, 1,
    4, 1, 2, 5, 0, 7, 2, 0, 2, 2, 1, 2, 2, 11, 1, 4, 2, 5, 0, 0, 6, 0, 0, 2, 0, 1, -1,
    7, 2, 3, 1, 8, 3, 1, 11, 1, -1, 12, 5, 3, 0, 5, 0, 3, 0, 6, 0, 3, 0, 7,
]


class Interface(unittest.TestCase):
    def test_numbers_one_behind_another(self):
        self.assertEqual(answers(LINE), GIVEN)

    def test_what_is_handed_in_stays(self):
        handed = list(LINE)
        answers(handed)
        self.assertEqual(handed, LINE)

    def test_twice_the_same(self):
        self.assertEqual(answers(LINE), answers(LINE))

    def test_new_each_time(self):
        self.assertEqual(ask(("add", UP)), [[1]])
        self.assertEqual(ask(("add", UP)), [[1]])
        self.assertEqual(ask(("drop",)), [[-2]])

    def test_what_is_given_back_is_free_to_change(self):
        answers(LINE).clear()
        self.assertEqual(answers(LINE), GIVEN)

    def test_whole_numbers_alone(self):
        given = answers(LINE)
        self.assertIs(type(given), list)
        self.assertEqual({type(number) for number in given}, {int})

    def test_empty_lists_of_the_new_object(self):
        for call in ("record", "add", "is_it", "unroll", "play"):
            self.assertEqual(ask((call, []), ("count",)), [[-1], [1]])

    def test_forty_calls(self):
        self.assertEqual(answers([3] * 40), [1, 1] * 40)
        full = ("record", row_of([write(0, 1)] * 14))
        self.assertEqual(ask(full, *[("count",)] * 39), [[14]] + [[26184]] * 39)

    def test_longest_lists(self):
        self.assertEqual(ask(("record", [14] + [3] * 59)), [[-1]])
        self.assertEqual(ask(("add", [3, 0, 0, 0, 0])), [[-1]])
        self.assertEqual(ask(("is_it", [1] * 120)), [[-1]])
        self.assertEqual(ask(("unroll", [1] * 120)), [[-1]])
        self.assertEqual(ask(("play", [8] * 40)), [[-1]])
