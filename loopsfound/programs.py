"""Programs: reading them, laying them as numbers, and the deeds that they tell."""

from loopsfound.deeds import LAST_FIELD, MOST_NUMBER, deed_at_round, has_number, read_deed
from loopsfound.reading import Reader
from loopsfound.refusals import NotOnlyRounds, NotWhole, TellsTooMuch

DEED = 0
LOOP = 1
PART = 3
MOST_ROUNDS = 9
MOST_PIECES = 16
MOST_DEEP = 3
MOST_TOLD = 60


class DeedPiece:
    """A deed with its step, which is 0 for a deed without a number."""

    def __init__(self, deed, step):
        self.deed = deed
        self.step = step


class LoopPiece:
    """A loop of so many rounds of a row of pieces."""

    def __init__(self, rounds, row):
        self.rounds = rounds
        self.row = row


class TableBoundPiece:
    """A loop to the end or a part: what it does hangs on the table, so it is counted, but never told."""

    def __init__(self, row):
        self.row = row


def read_piece(reader, deep):
    kind = reader.take(DEED, PART)
    if kind == DEED:
        deed = read_deed(reader)
        step = reader.take(-MOST_NUMBER, MOST_NUMBER) if has_number(deed) else 0
        return DeedPiece(deed, step)
    if kind == LOOP:
        rounds = reader.take(1, MOST_ROUNDS)
        return LoopPiece(rounds, read_row(reader, deep + 1))
    if kind == PART:
        reader.take(0, LAST_FIELD)
        reader.take(-MOST_NUMBER, MOST_NUMBER)
    return TableBoundPiece(read_row(reader, deep + 1))


def read_row(reader, deep):
    """A row of pieces that lies within so many loops and parts."""
    if deep > MOST_DEEP:
        raise NotWhole()
    row = []
    for place in range(reader.take(0, MOST_PIECES)):
        row.append(read_piece(reader, deep))
    return row


def count_pieces(row):
    """How many pieces a row has, with those within others."""
    pieces = len(row)
    for piece in row:
        if not isinstance(piece, DeedPiece):
            pieces = pieces + count_pieces(piece.row)
    return pieces


def whole_program(numbers):
    """The program that the list is, if it is just that."""
    reader = Reader(numbers)
    program = read_row(reader, 0)
    reader.finish()
    if count_pieces(program) > MOST_PIECES:
        raise NotWhole()
    return program


def is_table_bound(row):
    """Whether a loop to the end or a part is anywhere in the row."""
    for piece in row:
        if isinstance(piece, TableBoundPiece):
            return True
        if isinstance(piece, LoopPiece) and is_table_bound(piece.row):
            return True
    return False


def tell(row, round_number):
    """The deeds that a row of deeds and loops of rounds tells in that round of the loop around it."""
    told = []
    for piece in row:
        if isinstance(piece, DeedPiece):
            told.append(deed_at_round(piece.deed, piece.step, round_number))
        else:
            for inner_round in range(piece.rounds):
                told.extend(tell(piece.row, inner_round))
    return told


def count_told(row):
    """How many deeds a row of deeds and loops of rounds tells."""
    told = 0
    for piece in row:
        if isinstance(piece, DeedPiece):
            told = told + 1
        else:
            told = told + piece.rounds * count_told(piece.row)
    return told


def told_by(numbers):
    """The deeds told by the program that the list is; refusals are looked at in the document's order."""
    program = whole_program(numbers)
    if is_table_bound(program):
        raise NotOnlyRounds()
    # Counted first, so that what is refused is never told at its whole length, which may be thousands of deeds.
    if count_told(program) > MOST_TOLD:
        raise TellsTooMuch()
    return tell(program, 0)


def row_as_numbers(row):
    """A row of deeds and loops of rounds, as numbers."""
    numbers = [len(row)]
    for piece in row:
        if isinstance(piece, DeedPiece):
            numbers.append(DEED)
            numbers.extend(piece.deed)
            if has_number(piece.deed):
                numbers.append(piece.step)
        else:
            numbers.extend([LOOP, piece.rounds])
            numbers.extend(row_as_numbers(piece.row))
    return numbers
