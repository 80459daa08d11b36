"""next: the periods that the last deeds show, and the guess."""

import itertools
import unittest

from line import DELETE, DOUBLE, DOWN, TOP, UP, add, ask, copy, find, paste, row_of, write


def next_one(deeds):
    return ask(("record", row_of(deeds)), ("next_one",))[1]


def writes(*numbers):
    return [write(0, number) for number in numbers]


def write_rows(*numbers):
    """write 0 and the number, then down, for each number."""
    return [deed for number in numbers for deed in (write(0, number), DOWN)]


class Guesses(unittest.TestCase):
    def check(self, deeds, period, tail, deed):
        self.assertEqual(next_one(deeds), [1, period, tail] + deed)

    def check_none(self, deeds):
        self.assertEqual(next_one(deeds), [0])

    def test_of_the_document(self):
        self.check(write_rows(5, 6, 7), 2, 6, write(0, 8))
        self.check([DOWN, DOWN, UP] * 2, 3, 6, DOWN)
        self.check([DOWN, DOWN, UP, DOWN, DOWN], 3, 5, UP)

    def test_new(self):
        self.assertEqual(ask(("next_one",)), [[0]])

    def test_one_deed(self):
        self.check_none([DOWN])
        self.check_none([write(0, 5)])

    def test_two_deeds(self):
        self.check([copy(1), copy(1)], 1, 2, copy(1))
        self.check(writes(5, 5), 1, 2, write(0, 5))
        self.check(writes(5, 2), 1, 2, write(0, -1))

    def test_alike_needs_kind_and_field(self):
        for first, second in (
            (UP, DOWN), (copy(0), copy(1)), (copy(0), paste(0)), (write(0, 1), write(1, 1)), (write(0, 1), add(0, 1)),
            (add(2, 1), find(2, 1)), (copy(1), write(1, 0)), (write(1, 0), copy(1)),
        ):
            self.check_none([first, second])

    def test_one_round_and_a_half_and_one_less(self):
        circle = [DOWN, UP, TOP, DELETE, DOUBLE, copy(0), copy(1), copy(2), paste(0)]
        for period, least_tail in ((1, 2), (2, 3), (3, 5), (4, 6), (5, 8), (6, 9), (7, 11), (8, 12), (9, 14)):
            deeds = [circle[place % period] for place in range(least_tail)]
            self.check(deeds, period, least_tail, circle[least_tail % period])
            self.check_none(deeds[1:])
            if least_tail < 14:
                self.check([paste(2)] + deeds, period, least_tail, circle[least_tail % period])
                self.check_none([paste(2)] + deeds[1:])

    def test_the_longest_tail(self):
        # By 1 the tail is 2 (the last two), by 4 it is 6.
        self.check([UP, UP, DOWN, DOWN, UP, UP], 4, 6, DOWN)
        # By 1 it is 3, by 3 it is 3, which isn't more than 3, by 4 it is 5, which is less than 6.
        self.check([UP, DOWN, UP, UP, UP], 1, 3, UP)

    def test_of_tails_alike_the_least_period(self):
        self.check([UP] * 6, 1, 6, UP)
        self.check([TOP, UP, DOWN, UP, DOWN, UP, DOWN, UP, DOWN], 2, 8, UP)
        self.check(writes(1, 2, 3, 4), 1, 4, write(0, 5))

    def test_longer_tail_of_a_greater_period(self):
        # By 1 the tail is 2 (from 2 to 4), by 2 it is 3 (from 1 to 4).
        self.check(writes(1, 2, 4), 2, 3, write(0, 2))

    def test_places_grow_each_by_its_own_number(self):
        deeds = [write(0, 1), add(1, 9), DOWN, write(0, 4), add(1, 7), DOWN]
        self.check(deeds, 3, 6, write(0, 7))
        self.check(deeds + [write(0, 7)], 3, 7, add(1, 5))
        self.check(deeds + [write(0, 7), add(1, 5)], 3, 8, DOWN)

    def test_grows_by_the_same_number_each_time(self):
        self.check([UP] + write_rows(1, 2, 3), 2, 6, write(0, 4))
        # From 0 to 2 it grew by 2, then by 1: by 2 the tail is 5, by 4 it is 6.
        self.check([UP] + write_rows(0, 2, 3), 4, 6, write(0, 2))
        # By 1 the tail is 3, by 2 it is 4: from 9 to 8, and from 9 to 7.
        self.check(writes(9, 9, 8, 7), 2, 4, write(0, 7))
        self.check([UP] + writes(9, 8, 7), 1, 3, write(0, 6))

    def test_growing_by_999_and_by_1000(self):
        self.check(writes(0, 999), 1, 2, write(0, 1998))
        self.check(writes(0, -999), 1, 2, write(0, -1998))
        self.check(writes(-999, 0, 999), 1, 3, write(0, 1998))
        self.check_none(writes(-1, 999))
        self.check_none(writes(1, -999))
        self.check_none(writes(-999, 999))
        self.check(write_rows(-500, 499), 2, 4, write(0, 1498))
        self.check(write_rows(-500, 500), 2, 3, write(0, 500))

    def test_beyond_999(self):
        self.check(writes(998, 999), 1, 2, write(0, 1000))
        self.check(writes(-998, -999), 1, 2, write(0, -1000))
        self.check(write_rows(997, 998, 999), 2, 6, write(0, 1000))

    def test_grown_only_if_the_tail_has_two_rounds(self):
        self.check([add(1, 5), UP, add(1, 7)], 2, 3, UP)
        self.check([UP, add(1, 5), UP], 2, 3, add(1, 5))
        self.check([UP, TOP, find(1, 5), UP, TOP], 3, 5, find(1, 5))
        # There is such a deed two rounds ahead, but not in the tail.
        self.check([write(0, -500), TOP, UP, write(0, 501), TOP, UP], 3, 5, write(0, 501))
        self.check([write(1, 5), TOP, UP, write(0, 6), TOP, UP], 3, 5, write(0, 6))

    def test_follows_the_recording(self):
        given = ask(
            ("add", DOWN), ("next_one",), ("add", DOWN), ("next_one",), ("add", UP), ("next_one",), ("drop",),
            ("next_one",),
        )
        self.assertEqual(given[1::2], [[0], [1, 1, 2, 0], [0], [1, 1, 2, 0]])


def shows(deeds, period):
    """Word by word: the deeds from each place on, a period apart, grow by the same number each time."""
    for place in range(period):
        apart = deeds[place::period]
        if len({tuple(deed[:2]) for deed in apart}) > 1:
            return False
        numbers = [deed[2] if len(deed) == 3 else 0 for deed in apart]
        grown = {later - earlier for earlier, later in zip(numbers, numbers[1:])}
        if len(grown) > 1 or any(abs(step) > 999 for step in grown):
            return False
    return True


def expected(deeds):
    tails = {}
    for period in range(1, len(deeds) + 1):
        tail = max(tail for tail in range(len(deeds) + 1) if shows(deeds[len(deeds) - tail:], period))
        if tail > period and tail * 2 >= period * 3:
            tails[period] = tail
    if not tails:
        return [0]
    period = min(tails, key=lambda one: (-tails[one], one))
    deed = list(deeds[-period])
    if tails[period] >= 2 * period and len(deed) == 3:
        deed[2] += deed[2] - deeds[-2 * period][2]
    return [1, period, tails[period]] + deed


class WordByWord(unittest.TestCase):
    def check(self, longest, alphabet):
        for length in range(longest + 1):
            for deeds in itertools.product(alphabet, repeat=length):
                self.assertEqual(next_one(deeds), expected(deeds))

    def test_without_numbers(self):
        self.check(10, (UP, DOWN))
        self.check(6, (UP, DOWN, TOP))

    def test_with_numbers(self):
        self.check(6, (DOWN, write(0, 1), write(0, 2), write(0, 3)))

    def test_with_great_steps(self):
        self.check(6, (write(1, -999), write(1, 0), write(1, 1)))

    def test_fourteen(self):
        for first in itertools.product((UP, write(0, 1), write(0, 2)), repeat=4):
            for second in (first, first[::-1], first[1:], first[:2], (DOWN,)):
                deeds = (first + second) * 2
                deeds = (deeds + first)[:14]
                self.assertEqual(next_one(deeds), expected(deeds))
