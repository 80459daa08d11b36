"""Helpers of the tests: a line of calls told by names and lists, and its answers told one by one."""

from loopsfound.recording import answers

NUMBERS = {
    "record": 0, "add": 1, "drop": 2, "count": 3, "least": 4, "is_it": 5, "unroll": 6, "next_one": 7, "loops": 8,
    "play": 9, "told": 10,
}

DOWN = [0]
UP = [1]
TOP = [2]
DELETE = [7]
DOUBLE = [8]


def write(field, number):
    return [3, field, number]


def add(field, number):
    return [4, field, number]


def copy(field):
    return [5, field]


def paste(field):
    return [6, field]


def find(field, number):
    return [9, field, number]


def flat(lists):
    return [number for row in lists for number in row]


def row_of(things):
    """How many, and they: a row of deeds or of pieces."""
    return [len(things)] + flat(things)


def piece(deed, step=0):
    return [0] + deed + ([step] if len(deed) == 3 else [])


def loop(rounds, *pieces):
    return [1, rounds] + row_of(pieces)


def to_end(*pieces):
    return [2] + row_of(pieces)


def part(field, number, *pieces):
    return [3, field, number] + row_of(pieces)


def table(rows, cursor=0, clipboard=0):
    return row_of(rows) + [cursor, clipboard]


def lay(calls):
    """The numbers of calls such as ("count",) or ("record", [1, 0])."""
    numbers = []
    for call in calls:
        numbers.append(NUMBERS[call[0]])
        for handed in call[1:]:
            numbers.append(len(handed))
            numbers.extend(handed)
    return numbers


def split(given):
    """The answers, each as a list of its own."""
    apart = []
    place = 0
    while place < len(given):
        end = place + 1 + given[place]
        if given[place] < 1 or end > len(given):
            raise ValueError(given)
        apart.append(given[place + 1:end])
        place = end
    return apart


def ask(*calls):
    return split(answers(lay(calls)))


def state(*calls):
    """What can be seen of the recording behind these calls."""
    return ask(*calls, ("told",), ("count",), ("least",))[-3:]
