"""loops: the pairs of a place and a length from which on a loop of plain deeds tells the recording's deeds."""

import itertools
import unittest

from line import DOWN, TOP, UP, add, ask, copy, flat, loop, paste, piece, row_of, write


def loops(deeds):
    return ask(("record", row_of(deeds)), ("loops",))[1]


class Loops(unittest.TestCase):
    def check(self, deeds, *found):
        self.assertEqual(loops(deeds), row_of(found))

    def test_of_the_document(self):
        deeds = [write(0, 5), DOWN, write(0, 6), DOWN, write(0, 7), DOWN]
        self.assertEqual(loops(deeds), [3, 0, 2, 3, 1, 2, 2, 2, 2, 2])

    def test_new(self):
        self.assertEqual(ask(("loops",)), [[0]])

    def test_no_loops(self):
        self.check([DOWN])
        self.check([DOWN, UP])
        self.check([DOWN, UP, TOP, DOWN])

    def test_by_the_place_then_by_the_length(self):
        self.check([DOWN, DOWN, UP] * 2, (0, 1, 2), (0, 3, 2), (3, 1, 2))
        self.check([UP] * 4, (0, 1, 4), (0, 2, 2), (1, 1, 3), (2, 1, 2))

    def test_nine_rounds_at_most(self):
        for length in (9, 10, 14):
            found = loops([UP] * length)
            self.assertEqual(found[1:4], [0, 1, 9])
        self.assertEqual(loops([UP] * 8)[1:4], [0, 1, 8])

    def test_all_pairs_of_the_longest_recording(self):
        pairs = [
            (place, length, min(9, (14 - place) // length))
            for place in range(14) for length in range(1, 8) if place + 2 * length <= 14
        ]
        self.assertEqual(len(pairs), 49)
        self.check([UP] * 14, *pairs)
        self.check([write(0, number) for number in range(14)], *pairs)

    def test_steps_reach_999(self):
        self.check([write(0, 0), write(0, 999)], (0, 1, 2))
        self.check([write(0, 0), write(0, -999)], (0, 1, 2))
        self.check([write(0, -1), write(0, 999)])
        self.check([write(0, 999), write(0, -1)])
        self.check([write(0, -999), write(0, 0), write(0, 999)], (0, 1, 3), (1, 1, 2))

    def test_alike_needs_kind_and_field(self):
        for first, second in (
            (write(0, 1), write(1, 1)), (write(0, 1), add(0, 1)), (copy(0), copy(1)), (copy(0), paste(0)),
            (copy(1), write(1, 0)), (write(1, 0), copy(1)),
        ):
            self.check([first, second])

    def test_grows_by_the_same_number_each_time(self):
        self.check([write(0, 1), write(0, 2), write(0, 4)], (0, 1, 2), (1, 1, 2))

    def test_places_of_a_loop_grow_each_by_its_own_number(self):
        deeds = [write(0, 1), add(1, 9), write(0, 3), add(1, 5)]
        self.check(deeds, (0, 2, 2))

    def test_plain_deeds_alone(self):
        # Two rounds of a loop of 3 rounds, growing by 1, then down: a loop within a loop, but plain deeds too.
        once = [write(0, 1), write(0, 2), write(0, 3), DOWN]
        self.check(once + once, (0, 1, 3), (0, 4, 2), (1, 1, 2), (4, 1, 3), (5, 1, 2))


class AgainstPrograms(unittest.TestCase):
    """Each loop that could be is written as a program and unrolled."""

    def tells(self, deeds, place, length, rounds):
        pieces = []
        for at in range(place, place + length):
            deed = deeds[at]
            step = deeds[at + length][-1] - deed[-1] if len(deed) == len(deeds[at + length]) == 3 else 0
            pieces.append(piece(deed, step))
        wanted = row_of(deeds[place:place + length * rounds])
        return ask(("unroll", row_of([loop(rounds, *pieces)]))) == [wanted]

    def check(self, longest, alphabet):
        for deeds in itertools.product(alphabet, repeat=longest):
            found = []
            for place, length in itertools.product(range(longest), range(1, longest + 1)):
                told = [
                    rounds for rounds in range(2, 10)
                    if place + length * rounds <= longest and self.tells(deeds, place, length, rounds)
                ]
                if told:
                    found.append((place, length, max(told)))
            self.assertEqual(loops(deeds), [len(found)] + flat(found))

    def test_without_numbers(self):
        self.check(7, (UP, DOWN))

    def test_with_numbers(self):
        self.check(5, (UP, write(0, 1), write(0, 2), write(0, 3)))

    def test_fields_and_kinds(self):
        self.check(4, (write(0, 1), write(1, 1), add(0, 1), copy(0), copy(1)))
