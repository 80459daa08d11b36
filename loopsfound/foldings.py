"""The foldings of a recording: how many there are, the least one, and the loops of plain deeds.

What a loop's piece is hangs on its place alone: the deeds at this place in the loop's rounds give its deed and its
step. So a folding is a choice of places, lengths and rounds, and the deeds behind a piece can be folded without
looking at the piece.
"""

from loopsfound.deeds import deed_at_round, step_between
from loopsfound.programs import MOST_ROUNDS, DeedPiece, LoopPiece

MOST_LOOPS_DEEP = 2


class Stretch:
    """Deeds from a place on that are so many rounds, each of this length, with so many loops deep allowed within."""

    def __init__(self, deeds, start, length, rounds, deep):
        self.deeds = deeds
        self.start = start
        self.length = length
        self.rounds = rounds
        self.deep = deep


class Folded:
    """All rows of pieces for the same deeds: their number, the least one, its pieces counted, its deeds counted."""

    def __init__(self, ways, row, pieces, width):
        self.ways = ways
        self.row = row
        self.pieces = pieces
        self.width = width


def fold(deeds):
    """All foldings of a recording."""
    return fold_stretch(Stretch(deeds, 0, len(deeds), 1, MOST_LOOPS_DEEP))


def fold_stretch(stretch):
    """All rows of pieces that tell the stretch, if they are done in each of its rounds."""
    folded = [Folded(1, [], 0, 0)]
    for left in range(1, stretch.length + 1):
        place = stretch.start + stretch.length - left
        firsts = deed_choices(stretch, place) + loop_choices(stretch, place, left)
        folded.append(fold_left(firsts, folded, left))
    return folded[stretch.length]


def fold_left(firsts, folded, left):
    """All rows for the last deeds of a round, so many as are left, from their first pieces and what lies behind."""
    ways = 0
    row = []
    fewest = 0
    for first in firsts:
        behind = folded[left - first.width]
        if behind.ways > 0:
            pieces = first.pieces + behind.pieces
            # The first pieces come in the foldings' order, so that of two with as many pieces the earlier one stays.
            if ways == 0 or pieces < fewest:
                row = first.row + behind.row
                fewest = pieces
            ways = ways + first.ways * behind.ways
    return Folded(ways, row, fewest, left)


def deed_choices(stretch, place):
    """The deed at a place of the first round as a piece, if it fits all rounds."""
    first = stretch.deeds[place]
    step = 0
    if stretch.rounds > 1:
        step = step_between(first, stretch.deeds[place + stretch.length])
    if step is None:
        return []
    for round_number in range(1, stretch.rounds):
        deed = stretch.deeds[place + round_number * stretch.length]
        if deed != deed_at_round(first, step, round_number):
            return []
    return [Folded(1, [DeedPiece(first, step)], 1, 1)]


def loop_choices(stretch, place, left):
    """The loops that fit at a place of the first round, in the foldings' order."""
    choices = []
    if stretch.deep == 0:
        return choices
    for length in range(1, left // 2 + 1):
        for rounds in range(2, min(MOST_ROUNDS, left // length) + 1):
            if is_same_each_round(stretch, place, length * rounds):
                body = fold_stretch(Stretch(stretch.deeds, place, length, rounds, stretch.deep - 1))
                if body.ways > 0:
                    loop = LoopPiece(rounds, body.row)
                    choices.append(Folded(body.ways, [loop], body.pieces + 1, length * rounds))
    return choices


def is_same_each_round(stretch, place, width):
    """Whether so many deeds are the same in all rounds: a loop within a loop counts its own rounds alone."""
    deeds = stretch.deeds[place:place + width]
    for round_number in range(1, stretch.rounds):
        later = place + round_number * stretch.length
        if stretch.deeds[later:later + width] != deeds:
            return False
    return True


def most_rounds(deeds, place, length):
    """The most rounds of a loop of plain deeds, as long, that tells the deeds from a place on; 1 if no loop does."""
    fitting = min(MOST_ROUNDS, (len(deeds) - place) // length)
    rounds = 1
    while rounds < fitting and fold_stretch(Stretch(deeds, place, length, rounds + 1, 0)).ways > 0:
        rounds = rounds + 1
    return rounds


def plain_loops(deeds):
    """Each place, length and most rounds of a loop of plain deeds, by the place, then by the length."""
    found = []
    for place in range(len(deeds)):
        for length in range(1, (len(deeds) - place) // 2 + 1):
            rounds = most_rounds(deeds, place, length)
            if rounds > 1:
                found.append((place, length, rounds))
    return found
