"""The calls of a transaction: each gives back the numbers that it answers, or its refusal."""

HIGHEST_KEY = 255
HIGHEST_VALUE = 4294967295
HIGHEST_WAY = 1

WRONG = -1
CLASH = -5
FULL = -6
NO_SUCH_MARK = -7


def begin(state, way):
    if way > HIGHEST_WAY:
        return [WRONG]
    if not state.may_begin():
        return [FULL]
    return [state.begin(way)]


def read(transaction, key):
    if key > HIGHEST_KEY:
        return [WRONG]
    if not transaction.has_written(key):
        if not transaction.may_read():
            return [FULL]
        transaction.note_read(key, key)
    value = transaction.value_at(key)
    if value is None:
        return [0]
    return [1, 1, value]


def read_range(transaction, lo, hi):
    if hi > HIGHEST_KEY or hi < lo:
        return [WRONG]
    if not transaction.may_read():
        return [FULL]
    transaction.note_read(lo, hi)
    pairs = transaction.part(lo, hi)
    return [len(pairs) // 2, len(pairs)] + pairs


def write(transaction, key, value):
    if key > HIGHEST_KEY or value > HIGHEST_VALUE:
        return [WRONG]
    transaction.write(key, value)
    return [0]


def delete(transaction, key):
    if key > HIGHEST_KEY:
        return [WRONG]
    transaction.take_out(key)
    return [0]


def mark(transaction):
    if not transaction.may_mark():
        return [FULL]
    return [transaction.mark()]


def back(transaction, number):
    if not transaction.has_mark(number):
        return [NO_SUCH_MARK]
    transaction.go_back(number)
    return [len(transaction.writes)]


def commit(state, number):
    transaction = state.transactions[number]
    # Ended whatever comes of it: also one that is refused for a clash is gone.
    state.end(number)
    if not transaction.writes:
        return [0]
    clash = state.clash_of(transaction)
    if clash:
        return [CLASH, len(clash)] + clash
    return [state.commit(transaction.writes)]


def abort(state, number):
    state.end(number)
    return [0]
