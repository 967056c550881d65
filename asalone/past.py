"""The calls of the past, the log and the whole: each gives back the numbers that it answers, or its refusal."""

from asalone.forms import HIGHEST_KEY, list_answer, numbers_of, part_answer, value_answer, writes_between
from asalone.log import history_from, log_of
from asalone.refusals import NO_LOG, NO_SUCH_NUMBER, STILL_SEEN, WRONG


def value_as_of(history, number, key):
    if not history.tells(number):
        return [NO_SUCH_NUMBER]
    if key > HIGHEST_KEY:
        return [WRONG]
    return value_answer(history.store_at(number).get(key))


def store_as_of(history, number):
    if not history.tells(number):
        return [NO_SUCH_NUMBER]
    return part_answer(history.store_at(number), 0, HIGHEST_KEY)


def changes(history, one, other):
    if not history.tells(one) or not history.tells(other):
        return [NO_SUCH_NUMBER]
    writes = writes_between(history.store_at(one), history.store_at(other))
    return list_answer(len(writes), numbers_of(writes))


def vacuum(state, number):
    base = state.history.base
    if number < base or number > state.safe:
        return [NO_SUCH_NUMBER]
    if state.sees_below(number):
        return [STILL_SEEN]
    state.history.drop_below(number)
    return [number - base]


def sync(state):
    count = state.not_safe()
    state.make_all_safe()
    return [count]


def crash(state):
    count = state.not_safe()
    state.lose_what_is_not_safe()
    return [count]


def whole_log(history):
    numbers = log_of(history)
    return list_answer(len(numbers), numbers)


def recover(state, numbers):
    history = history_from(numbers)
    if history is None:
        return [NO_LOG]
    state.take_up(history)
    return [len(history.commits)]


def shape(state):
    told = []
    for number, transaction in state.transactions.items():
        told.extend([number, transaction.sees, transaction.way, len(transaction.writes),
                     len(transaction.reads), len(transaction.marks)])
    return [state.history.now(), 2, state.history.base, state.safe, len(told)] + told
