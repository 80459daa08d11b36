"""count and least, by examples and against all programs there are of a small size."""

import itertools
import unittest

from line import DOWN, TOP, UP, ask, loop, piece, row_of, write


def folded(deeds):
    """What count and least answer."""
    given = ask(("record", row_of(deeds)), ("count",), ("least",))
    return given[1][0], given[2]


class Examples(unittest.TestCase):
    def check(self, deeds, count, pieces, *program):
        self.assertEqual(folded(deeds), (count, [pieces] + row_of(program)))

    def check_least(self, deeds, pieces, *program):
        self.assertEqual(folded(deeds)[1], [pieces] + row_of(program))

    def test_of_the_document(self):
        given = ask(("record", [6, 3, 0, 5, 0, 3, 0, 6, 0, 3, 0, 7, 0]), ("count",), ("least",))
        self.assertEqual(given, [[6], [5], [3, 1, 1, 3, 2, 0, 3, 0, 5, 1, 0, 0]])
        given = ask(("record", [6, 0, 0, 1, 0, 0, 1]), ("count",), ("least",))
        self.assertEqual(given, [[6], [6], [4, 1, 1, 2, 3, 0, 0, 0, 0, 0, 1]])

    def test_new(self):
        self.assertEqual(ask(("count",), ("least",)), [[1], [0, 0]])
        self.assertEqual(ask(("record", []), ("count",), ("least",)), [[-1], [1], [0, 0]])

    def test_one_deed(self):
        self.check([DOWN], 1, 1, piece(DOWN))
        self.check([write(2, -999)], 1, 1, piece(write(2, -999)))

    def test_deed_ahead_of_loop(self):
        self.check([UP, UP], 2, 2, piece(UP), piece(UP))

    def test_fewer_pieces_ahead_of_all(self):
        self.check([UP, UP, UP], 4, 2, loop(3, piece(UP)))

    def test_less_length_ahead_of_more(self):
        # 7 rounds of 2 deeds, 7 rounds of a loop, 2 rounds of a loop of 7: all are 3 pieces.
        self.check([TOP] * 14, 26184, 3, loop(7, piece(TOP), piece(TOP)))

    def test_fewer_rounds_ahead_of_more(self):
        deeds = [write(0, number) for number in (1, 2, 3, 4, 4, 4)]
        self.check_least(deeds, 4, loop(3, piece(write(0, 1), 1)), loop(3, piece(write(0, 4))))

    def test_alike_with_numbers(self):
        self.check([write(1, 4)] * 14, 26184, 3, loop(7, piece(write(1, 4)), piece(write(1, 4))))

    def test_nine_rounds_and_ten(self):
        self.check_least([UP] * 9, 2, loop(9, piece(UP)))
        self.check_least([UP] * 10, 3, piece(UP), loop(9, piece(UP)))

    def test_growing_numbers_make_no_loop_of_loops(self):
        deeds = [write(0, number) for number in (1, 2, 3, 4)]
        # Two rounds of a loop of two would tell 1 2 twice.
        self.check(deeds, 9, 2, loop(4, piece(write(0, 1), 1)))

    def test_loop_within_a_loop(self):
        deeds = [write(0, 1), write(0, 2), write(0, 3), DOWN] * 2
        self.check_least(deeds, 4, loop(2, loop(3, piece(write(0, 1), 1)), piece(DOWN)))

    def test_outer_deed_grows_by_the_outer_round(self):
        deeds = [write(0, 1)] + [UP] * 3 + [write(0, 3)] + [UP] * 3 + [write(0, 5)] + [UP] * 3
        self.check_least(deeds, 4, loop(3, piece(write(0, 1), 2), loop(3, piece(UP))))

    def test_steps_reach_999(self):
        self.check([write(0, 0), write(0, 999)], 2, 2, piece(write(0, 0)), piece(write(0, 999)))
        self.check([write(0, 0), write(0, -999)], 2, 2, piece(write(0, 0)), piece(write(0, -999)))
        self.check([write(0, -1), write(0, 999)], 1, 2, piece(write(0, -1)), piece(write(0, 999)))
        self.check([write(0, 999), write(0, -1)], 1, 2, piece(write(0, 999)), piece(write(0, -1)))
        three = [write(0, number) for number in (-999, 0, 999)]
        self.check(three, 4, 2, loop(3, piece(write(0, -999), 999)))
        self.check(three[::-1], 4, 2, loop(3, piece(write(0, 999), -999)))

    def test_alike_needs_kind_and_field(self):
        self.assertEqual(folded([write(0, 1), write(1, 1)])[0], 1)
        self.assertEqual(folded([write(0, 1), [4, 0, 1]])[0], 1)
        self.assertEqual(folded([[5, 0], [5, 1]])[0], 1)
        self.assertEqual(folded([[5, 0], [6, 0]])[0], 1)
        self.assertEqual(folded([[5, 1], [5, 1]])[0], 2)
        self.assertEqual(folded([[5, 1], write(1, 0)])[0], 1)

    def test_follows_the_recording(self):
        given = ask(("add", UP), ("add", UP), ("count",), ("add", UP), ("count",), ("drop",), ("count",), ("least",))
        self.assertEqual(given, [[1], [2], [2], [3], [4], [2], [2], [2, 2, 0, 1, 0, 1]])


class AllAlike(unittest.TestCase):
    """Of deeds that are all alike, just lengths matter, so that they are counted by lengths alone."""

    def ways(self, length, deep):
        if length == 0:
            return 1
        total = self.ways(length - 1, deep)
        if deep > 0:
            for body in range(1, length + 1):
                for rounds in range(2, 10):
                    if body * rounds <= length:
                        total += self.ways(body, deep - 1) * self.ways(length - body * rounds, deep)
        return total

    def test_count(self):
        for length in range(15):
            for deed in (DOWN, [6, 1], [9, 2, 999]):
                self.assertEqual(folded([deed] * length)[0], self.ways(length, 2))


# Programs as trees: a deed is ("deed", deed, step), a loop ("loop", rounds, its pieces).

def tell(pieces, turn=0):
    for one in pieces:
        if one[0] == "loop":
            for inner in range(one[1]):
                yield from tell(one[2], inner)
        elif len(one[1]) == 3:
            yield one[1][:2] + (one[1][2] + one[2] * turn,)
        else:
            yield one[1]


def size(pieces):
    return sum(1 + (size(one[2]) if one[0] == "loop" else 0) for one in pieces)


def rank(pieces):
    """The order of rows with as many pieces: piece by piece."""
    return [
        (1, len(list(tell(one[2]))), one[1], rank(one[2])) if one[0] == "loop" else (0,)
        for one in pieces
    ]


def laid(pieces):
    return row_of([
        [1, one[1]] + laid(one[2]) if one[0] == "loop" else piece(list(one[1]), one[2])
        for one in pieces
    ])


def rows(length, deep, within, alphabet, steps):
    """Every row of pieces that tells so many deeds."""
    if length == 0:
        yield ()
        return
    for deed in alphabet:
        for step in steps if within and len(deed) == 3 else (0,):
            for rest in rows(length - 1, deep, within, alphabet, steps):
                yield (("deed", deed, step),) + rest
    if deep > 0:
        for body in range(1, length // 2 + 1):
            for rounds in range(2, min(9, length // body) + 1):
                for inner in rows(body, deep - 1, True, alphabet, steps):
                    for rest in rows(length - body * rounds, deep, within, alphabet, steps):
                        yield (("loop", rounds, inner),) + rest


class AgainstAllPrograms(unittest.TestCase):
    """Each program of a small size is told; the foldings of a recording are those that tell it."""

    def check(self, longest, alphabet, steps):
        for length in range(longest + 1):
            telling = {}
            for program in rows(length, 2, False, alphabet, steps):
                telling.setdefault(tuple(tell(program)), []).append(program)
            for deeds in itertools.product(alphabet, repeat=length):
                foldings = telling[deeds]
                least = min(foldings, key=lambda program: (size(program), rank(program)))
                self.assertEqual(folded([list(deed) for deed in deeds]),
                                 (len(foldings), [size(least)] + laid(least)))

    def test_two_deeds_without_numbers(self):
        self.check(10, ((0,), (1,)), (0,))

    def test_numbers_that_grow_and_fall(self):
        self.check(5, ((3, 0, 0), (3, 0, 1), (3, 0, 2)), (-2, -1, 0, 1, 2))

    def test_deeds_with_and_without_numbers(self):
        self.check(6, ((0,), (4, 1, 0), (4, 1, 1)), (-1, 0, 1))

    def test_kinds_and_fields_that_look_alike(self):
        self.check(4, ((3, 0, 0), (3, 1, 0), (9, 0, 1), (5, 0), (7,)), (-1, 0, 1))
