"""Periods that the last deeds show, and the guess of what comes next."""

from loopsfound.deeds import deed_at_round, number_of, step_between


class Guess:
    """The period that the guess is by, its tail, and the next deed."""

    def __init__(self, period, tail, deed):
        self.period = period
        self.tail = tail
        self.deed = deed


def goes_along(deeds, place, period):
    """Whether the deeds from a place on show the period, if those behind this place do."""
    later = place + period
    if later >= len(deeds):
        return True
    step = step_between(deeds[place], deeds[later])
    if step is None:
        return False
    if later + period >= len(deeds):
        return True
    return step == step_between(deeds[later], deeds[later + period])


def tail_of(deeds, period):
    """How many last deeds show the period, as many as can be."""
    start = len(deeds)
    while start > 0 and goes_along(deeds, start - 1, period):
        start = start - 1
    return len(deeds) - start


def does_count(period, tail):
    return tail > period and 2 * tail >= 3 * period


def deed_behind(deeds, period, tail):
    """The deed that the period says comes next."""
    earlier = deeds[len(deeds) - period]
    if tail < 2 * period:
        return earlier
    # Whole rounds of the tail alone tell by how much a number grows.
    step = number_of(earlier) - number_of(deeds[len(deeds) - 2 * period])
    return deed_at_round(earlier, step, 1)


def guess_next(deeds):
    """The guess, or None if no period counts."""
    best = 0
    longest = 0
    for period in range(1, len(deeds)):
        tail = tail_of(deeds, period)
        if does_count(period, tail) and tail > longest:
            best = period
            longest = tail
    if best == 0:
        return None
    return Guess(best, longest, deed_behind(deeds, best, longest))
