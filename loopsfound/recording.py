"""The calls on one recording, read from a list of numbers, and what they answer."""

from loopsfound.deeds import MOST_DEEDS, whole_deed, whole_deeds
from loopsfound.foldings import fold
from loopsfound.programs import row_as_numbers, told_by
from loopsfound.refusals import FullRecording, NoDeeds, NotOnlyRounds, NotWhole, TellsTooMuch

RECORD = 0
ADD = 1
DROP = 2
COUNT = 3
LEAST = 4
IS_IT = 5


class Recording:
    """The one object. Each call gives the numbers that it answers, or raises its refusal."""

    def __init__(self):
        self.deeds = []

    def record(self, numbers):
        self.deeds = whole_deeds(numbers)
        return [len(self.deeds)]

    def add(self, numbers):
        deed = whole_deed(numbers)
        if len(self.deeds) >= MOST_DEEDS:
            raise FullRecording()
        self.deeds.append(deed)
        return [len(self.deeds)]

    def drop(self):
        if len(self.deeds) == 0:
            raise NoDeeds()
        self.deeds.pop()
        return [len(self.deeds)]

    def count(self):
        return [fold(self.deeds).ways]

    def least(self):
        folded = fold(self.deeds)
        return [folded.pieces] + row_as_numbers(folded.row)

    def is_it(self, numbers):
        return compare(told_by(numbers), self.deeds)


def compare(told, deeds):
    """1 if these are the same, else 0 and the first place at which they aren't."""
    shorter = min(len(told), len(deeds))
    for place in range(shorter):
        if told[place] != deeds[place]:
            return [0, place]
    if len(told) == len(deeds):
        return [1]
    return [0, shorter]


def do_call(recording, call, numbers):
    if call == RECORD:
        return recording.record(numbers)
    if call == ADD:
        return recording.add(numbers)
    if call == DROP:
        return recording.drop()
    if call == COUNT:
        return recording.count()
    if call == LEAST:
        return recording.least()
    if call == IS_IT:
        return recording.is_it(numbers)
    raise NotImplementedError(f"call {call}")


def answer(recording, call, numbers):
    """What a call answers, a refusal as its number."""
    try:
        return do_call(recording, call, numbers)
    except NotWhole:
        return [-1]
    except NoDeeds:
        return [-2]
    except NotOnlyRounds:
        return [-4]
    except FullRecording:
        return [-6]
    except TellsTooMuch:
        return [-7]


def answers(calls):
    """What the calls in this list answer, one behind another, on a recording that is new."""
    recording = Recording()
    given = []
    place = 0
    while place < len(calls):
        call = calls[place]
        place = place + 1
        numbers = []
        if call in (RECORD, ADD, IS_IT):
            end = place + 1 + calls[place]
            numbers = calls[place + 1:end]
            place = end
        answered = answer(recording, call, numbers)
        given.append(len(answered))
        given.extend(answered)
    return given
