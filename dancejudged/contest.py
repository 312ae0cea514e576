"""The calls on one contest, read from a list of numbers and answered in one."""

from dancejudged.board import Board

START = 0
MARK = 1
DANCE = 2
TOTAL = 3
FINAL = 4
MISSING = 5


def call_size(calls, at):
    """How many numbers the call that begins at this index has."""
    if calls[at] == START:
        return 4
    if calls[at] == MARK:
        return 4 + calls[at + 3]
    if calls[at] == DANCE or calls[at] == TOTAL:
        return 2
    if calls[at] == FINAL or calls[at] == MISSING:
        return 1
    raise ValueError("there is no such call")


def answer(board, call):
    """What the board answers to one call, as a list of numbers."""
    if call[0] == START:
        return board.start(call[1], call[2], call[3])
    if call[0] == MARK:
        return board.mark(call[1], call[2], call[4:])
    if call[0] == DANCE:
        return board.dance(call[1])
    if call[0] == TOTAL:
        return board.total(call[1])
    if call[0] == FINAL:
        return board.final()
    return board.missing()


def answers(calls):
    """For each call, in order: how many numbers are answered, and these."""
    board = Board()
    told = []
    at = 0
    while at < len(calls):
        size = call_size(calls, at)
        numbers = answer(board, calls[at:at + size])
        told.append(len(numbers))
        told.extend(numbers)
        at += size
    return told
