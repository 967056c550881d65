"""The calls of a transaction: each gives back the numbers that it answers, or its refusal."""

from asalone.forms import HIGHEST_KEY, HIGHEST_VALUE, list_answer, part_answer, value_answer
from asalone.refusals import CLASH, FULL, NO_SUCH_NUMBER, WRONG

HIGHEST_WAY = 1


def begin(state, way):
    if way > HIGHEST_WAY:
        return [WRONG]
    if not state.may_begin():
        return [FULL]
    return [state.begin(way)]


def read(transaction, key):
    if key > HIGHEST_KEY:
        return [WRONG]
    if not transaction.has_written(key):
        if not transaction.may_read():
            return [FULL]
        transaction.note_read(key, key)
    return value_answer(transaction.value_at(key))


def read_range(transaction, lo, hi):
    if hi > HIGHEST_KEY or hi < lo:
        return [WRONG]
    if not transaction.may_read():
        return [FULL]
    transaction.note_read(lo, hi)
    return part_answer(transaction.seen(), lo, hi)


def write(transaction, key, value):
    if key > HIGHEST_KEY or value > HIGHEST_VALUE:
        return [WRONG]
    transaction.write(key, value)
    return [0]


def delete(transaction, key):
    if key > HIGHEST_KEY:
        return [WRONG]
    transaction.take_out(key)
    return [0]


def mark(transaction):
    if not transaction.may_mark():
        return [FULL]
    return [transaction.mark()]


def back(transaction, number):
    if not transaction.has_mark(number):
        return [NO_SUCH_NUMBER]
    transaction.go_back(number)
    return [len(transaction.writes)]


def commit(state, number):
    transaction = state.transactions[number]
    # Ended whatever comes of it: also one that is refused for a clash is gone.
    state.end(number)
    if not transaction.writes:
        return [0]
    clash = state.clash_of(transaction)
    if clash:
        return list_answer(CLASH, clash)
    state.history.add_commit(transaction.writes)
    return [state.history.now()]


def abort(state, number):
    state.end(number)
    return [0]
