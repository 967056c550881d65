"""A line of calls on a new state, handed over and answered as one list of whole numbers."""

from asalone.session import abort, back, begin, commit, delete, mark, read, read_range, write
from asalone.state import State

BEGIN = 0
READ = 1
RANGE = 2
WRITE = 3
DELETE = 4
MARK = 5
BACK = 6
COMMIT = 7
ABORT = 8

# How many numbers stand behind each call's own.
GIVEN = (1, 2, 3, 3, 2, 1, 2, 1, 1)

NONE_SUCH = -4


def answer_within(transaction, call, given):
    """The answer of a call that leaves its transaction as one that goes on."""
    if call == READ:
        return read(transaction, given[1])
    if call == RANGE:
        return read_range(transaction, given[1], given[2])
    if call == WRITE:
        return write(transaction, given[1], given[2])
    if call == DELETE:
        return delete(transaction, given[1])
    if call == MARK:
        return mark(transaction)
    return back(transaction, given[1])


def answer(state, call, given):
    if call == BEGIN:
        return begin(state, given[0])
    number = given[0]
    if number not in state.transactions:
        return [NONE_SUCH]
    if call == COMMIT:
        return commit(state, number)
    if call == ABORT:
        return abort(state, number)
    return answer_within(state.transactions[number], call, given)


def answers(calls):
    """For each call, in order, how many numbers are answered, then these."""
    state = State()
    told = []
    place = 0
    while place < len(calls):
        call = calls[place]
        behind = place + 1 + GIVEN[call]
        numbers = answer(state, call, calls[place + 1:behind])
        told.append(len(numbers))
        told.extend(numbers)
        place = behind
    return told
