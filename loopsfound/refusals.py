"""The refusals: one error for each, with the number that is answered for it."""


class NotWhole(Exception):
    """-1: the list isn't whole what it should be."""


class NoDeeds(Exception):
    """-2: there is no deed to drop."""


class NotOnlyRounds(Exception):
    """-4: the program has a loop to the end or a part."""


class FullRecording(Exception):
    """-6: the recording has as many deeds as it may have."""


class TellsTooMuch(Exception):
    """-7: the program tells too many deeds."""
