"""The log: a history told as numbers with checks in between, and read back as far as it's whole."""

from asalone.forms import HIGHEST_KEY, HIGHEST_VALUE, numbers_of, pairs_of
from asalone.history import History

HIGHEST_BASE = 4294967295
MOST_KEYS = 256
MODULUS = 4294967296


def check_over(check, numbers):
    """The check of these numbers, going on from that one."""
    for x in numbers:
        check = (31 * check + x + 1) % MODULUS
    return check


def log_of(history):
    pairs = pairs_of(history.base_store, 0, HIGHEST_KEY)
    told = [history.base, len(pairs) // 2] + pairs
    check = check_over(0, told)
    told.append(check)
    for writes in history.commits:
        part = [len(writes)] + numbers_of(writes)
        check = check_over(check, part)
        told.extend(part)
        told.append(check)
    return told


def store_from(pairs):
    """The store that is told so, or None: it is none."""
    store = {}
    before = -1
    for place in range(0, len(pairs), 2):
        key = pairs[place]
        value = pairs[place + 1]
        if key <= before or key > HIGHEST_KEY or value > HIGHEST_VALUE:
            return None
        store[key] = value
        before = key
    return store


def is_write(there, value):
    if there == 1:
        return value <= HIGHEST_VALUE
    return there == 0 and value == 0


def writes_from(numbers):
    """The writes that are told so, or None: they are none."""
    writes = {}
    before = -1
    for place in range(0, len(numbers), 3):
        key = numbers[place]
        there = numbers[place + 1]
        value = numbers[place + 2]
        if key <= before or key > HIGHEST_KEY or not is_write(there, value):
            return None
        writes[key] = value if there == 1 else None
        before = key
    return writes


def commits_from(numbers, place, check):
    """The writes of each commit from that place on, up to the first that isn't whole and right."""
    commits = []
    while place < len(numbers):
        count = numbers[place]
        behind = place + 1 + 3 * count
        if count < 1 or count > MOST_KEYS or behind >= len(numbers):
            return commits
        check = check_over(check, numbers[place:behind])
        writes = writes_from(numbers[place + 1:behind])
        if writes is None or check != numbers[behind]:
            return commits
        commits.append(writes)
        place = behind + 1
    return commits


def history_from(numbers):
    """The history that is read from these numbers, or None: their beginning is no log's."""
    if len(numbers) < 2:
        return None
    base = numbers[0]
    count = numbers[1]
    behind = 2 + 2 * count
    if base > HIGHEST_BASE or count > MOST_KEYS or behind >= len(numbers):
        return None
    store = store_from(numbers[2:behind])
    check = check_over(0, numbers[:behind])
    if store is None or check != numbers[behind]:
        return None
    return History(base, store, commits_from(numbers, behind + 1, check))
