"""The calls on one recording, read from a list of numbers, and what they answer."""

from loopsfound.deeds import MOST_DEEDS, deeds_as_numbers, whole_deed, whole_deeds
from loopsfound.foldings import fold, plain_loops
from loopsfound.periods import guess_next
from loopsfound.programs import row_as_numbers, told_by
from loopsfound.refusals import FullRecording, NoDeeds, NotOnlyRounds, NotWhole, TellsTooMuch
from loopsfound.tables import run_deeds, table_as_numbers, whole_table

RECORD = 0
ADD = 1
DROP = 2
COUNT = 3
LEAST = 4
IS_IT = 5
UNROLL = 6
NEXT_ONE = 7
LOOPS = 8
PLAY = 9


class Recording:
    """The one object. Each call gives the numbers that it answers, or raises its refusal."""

    def __init__(self):
        self.deeds = []

    def record(self, numbers):
        self.deeds = whole_deeds(numbers)
        return [len(self.deeds)]

    def add(self, numbers):
        deed = whole_deed(numbers)
        if len(self.deeds) >= MOST_DEEDS:
            raise FullRecording()
        self.deeds.append(deed)
        return [len(self.deeds)]

    def drop(self):
        if len(self.deeds) == 0:
            raise NoDeeds()
        self.deeds.pop()
        return [len(self.deeds)]

    def count(self):
        return [fold(self.deeds).ways]

    def least(self):
        folded = fold(self.deeds)
        return [folded.pieces] + row_as_numbers(folded.row)

    def is_it(self, numbers):
        return compare(told_by(numbers), self.deeds)

    def unroll(self, numbers):
        return deeds_as_numbers(told_by(numbers))

    def next_one(self):
        guess = guess_next(self.deeds)
        if guess is None:
            return [0]
        return [1, guess.period, guess.tail] + list(guess.deed)

    def loops(self):
        found = plain_loops(self.deeds)
        numbers = [len(found)]
        for loop in found:
            numbers.extend(loop)
        return numbers

    def play(self, numbers):
        table = whole_table(numbers)
        # The least folding tells just the recording's deeds, and these are too few for a run to be too long.
        ended = run_deeds(table, self.deeds)
        return ended + table_as_numbers(table)

    def told(self):
        return deeds_as_numbers(self.deeds)


def compare(told, deeds):
    """1 if these are the same, else 0 and the first place at which they aren't."""
    shorter = min(len(told), len(deeds))
    for place in range(shorter):
        if told[place] != deeds[place]:
            return [0, place]
    if len(told) == len(deeds):
        return [1]
    return [0, shorter]


def do_call(recording, call, numbers):
    if call == RECORD:
        return recording.record(numbers)
    if call == ADD:
        return recording.add(numbers)
    if call == DROP:
        return recording.drop()
    if call == COUNT:
        return recording.count()
    if call == LEAST:
        return recording.least()
    if call == IS_IT:
        return recording.is_it(numbers)
    if call == UNROLL:
        return recording.unroll(numbers)
    if call == NEXT_ONE:
        return recording.next_one()
    if call == LOOPS:
        return recording.loops()
    if call == PLAY:
        return recording.play(numbers)
    return recording.told()


def answer(recording, call, numbers):
    """What a call answers, a refusal as its number."""
    try:
        return do_call(recording, call, numbers)
    except NotWhole:
        return [-1]
    except NoDeeds:
        return [-2]
    except NotOnlyRounds:
        return [-4]
    except FullRecording:
        return [-6]
    except TellsTooMuch:
        return [-7]


def answers(calls):
    """What the calls in this list answer, one behind another, on a recording that is new."""
    recording = Recording()
    given = []
    place = 0
    while place < len(calls):
        call = calls[place]
        place = place + 1
        numbers = []
        if call in (RECORD, ADD, IS_IT, UNROLL, PLAY):
            end = place + 1 + calls[place]
            numbers = calls[place + 1:end]
            place = end
        answered = answer(recording, call, numbers)
        given.append(len(answered))
        given.extend(answered)
    return given
