"""Deeds, and how they are read from numbers.

A deed is a tuple of its numbers: its kind, then its field and its number, if it has them.
"""

from loopsfound.reading import Reader

DOWN = 0
UP = 1
TOP = 2
WRITE = 3
ADD = 4
COPY = 5
PASTE = 6
DELETE = 7
DOUBLE = 8
FIND = 9
KINDS_WITH_FIELD = (3, 4, 5, 6, 9)
KINDS_WITH_NUMBER = (3, 4, 9)
LAST_FIELD = 2
MOST_NUMBER = 999
MOST_DEEDS = 14


def has_number(deed):
    return len(deed) == 3


def number_of(deed):
    """The deed's number; 0 if it has none."""
    return deed[2] if has_number(deed) else 0


def deed_at_round(deed, step, round_number):
    """The deed as it is told in that round of its loop."""
    if not has_number(deed):
        return deed
    return (deed[0], deed[1], deed[2] + step * round_number)


def step_between(first, second):
    """The step by which the one deed becomes the other a round later, or None if there is no such step."""
    if first[:2] != second[:2]:
        return None
    step = number_of(second) - number_of(first)
    return step if abs(step) <= MOST_NUMBER else None


def read_deed(reader):
    kind = reader.take(DOWN, FIND)
    if kind not in KINDS_WITH_FIELD:
        return (kind,)
    field = reader.take(0, LAST_FIELD)
    if kind not in KINDS_WITH_NUMBER:
        return (kind, field)
    return (kind, field, reader.take(-MOST_NUMBER, MOST_NUMBER))


def whole_deed(numbers):
    """The deed that the list is, if it is just that."""
    reader = Reader(numbers)
    deed = read_deed(reader)
    reader.finish()
    return deed


def whole_deeds(numbers):
    """The row of deeds that the list is, if it is just that and no longer than a recording."""
    reader = Reader(numbers)
    deeds = []
    for place in range(reader.take(0, MOST_DEEDS)):
        deeds.append(read_deed(reader))
    reader.finish()
    return deeds


def deeds_as_numbers(deeds):
    numbers = [len(deeds)]
    for deed in deeds:
        numbers.extend(deed)
    return numbers
