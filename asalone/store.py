"""A line of calls on a new state, handed over and answered as one list of whole numbers."""

from asalone.past import changes, crash, recover, shape, store_as_of, sync, vacuum, value_as_of, whole_log
from asalone.refusals import NONE_SUCH
from asalone.session import abort, back, begin, commit, delete, mark, read, read_range, write
from asalone.state import State

BEGIN = 0
READ = 1
RANGE = 2
WRITE = 3
DELETE = 4
MARK = 5
BACK = 6
COMMIT = 7
ABORT = 8
AT = 9
ALL = 10
CHANGES = 11
VACUUM = 12
SYNC = 13
CRASH = 14
LOG = 15
RECOVER = 16
SHAPE = 17

# How many numbers stand behind each call's own; of recover that is one, which says how long the list behind it is.
GIVEN = (1, 2, 3, 3, 2, 1, 2, 1, 1, 2, 1, 2, 1, 0, 0, 0, 1, 0)


def answer_within(transaction, call, given):
    """The answer of a call that leaves its transaction as one that goes on."""
    if call == READ:
        return read(transaction, given[1])
    if call == RANGE:
        return read_range(transaction, given[1], given[2])
    if call == WRITE:
        return write(transaction, given[1], given[2])
    if call == DELETE:
        return delete(transaction, given[1])
    if call == MARK:
        return mark(transaction)
    return back(transaction, given[1])


def answer_of_transaction(state, call, given):
    number = given[0]
    if number not in state.transactions:
        return [NONE_SUCH]
    if call == COMMIT:
        return commit(state, number)
    if call == ABORT:
        return abort(state, number)
    return answer_within(state.transactions[number], call, given)


def answer_of_past(history, call, given):
    """The answer of a call that changes nothing."""
    if call == AT:
        return value_as_of(history, given[0], given[1])
    if call == ALL:
        return store_as_of(history, given[0])
    if call == CHANGES:
        return changes(history, given[0], given[1])
    return whole_log(history)


def answer(state, call, given):
    if call == BEGIN:
        return begin(state, given[0])
    if call <= ABORT:
        return answer_of_transaction(state, call, given)
    if call == VACUUM:
        return vacuum(state, given[0])
    if call == SYNC:
        return sync(state)
    if call == CRASH:
        return crash(state)
    if call == RECOVER:
        return recover(state, given[1:])
    if call == SHAPE:
        return shape(state)
    return answer_of_past(state.history, call, given)


def count_given(calls, place):
    """How many numbers stand behind the call's own at that place."""
    count = GIVEN[calls[place]]
    if calls[place] == RECOVER:
        count += calls[place + 1]
    return count


def answers(calls):
    """For each call, in order, how many numbers are answered, then these."""
    state = State()
    told = []
    place = 0
    while place < len(calls):
        behind = place + 1 + count_given(calls, place)
        numbers = answer(state, calls[place], calls[place + 1:behind])
        told.append(len(numbers))
        told.extend(numbers)
        place = behind
    return told
