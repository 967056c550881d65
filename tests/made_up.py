"""Lines made up by a seeded random source."""

from tests.lines import LARGEST, abort, at, back, begin, changes, commit, crash, delete, flat, log, log_with, mark
from tests.lines import read, recover, shape, span, sync, vacuum, whole, write
from tests.model import Model

MOST_CALLS = 200
MOST_NUMBERS = 16000


def key(rng, keys):
    # Few keys, so that transactions meet; the edges now and then.
    return rng.choice([0, 255, 256, LARGEST]) if rng.random() < 0.04 else rng.randrange(keys)


def value(rng):
    return rng.choice([0, 4294967295, 4294967296, LARGEST]) if rng.random() < 0.06 else rng.randrange(1000)


def call_of(rng, number, keys, ends):
    kind = rng.random()
    if kind < 0.28:
        return read(number, key(rng, keys))
    if kind < 0.38:
        lo = key(rng, keys)
        return span(number, lo, key(rng, keys) if rng.random() < 0.2 else lo + rng.randrange(3))
    if kind < 0.58:
        return write(number, key(rng, keys), value(rng))
    if kind < 0.68:
        return delete(number, key(rng, keys))
    if kind < 0.76:
        return mark(number)
    if kind < 0.84:
        return back(number, rng.randrange(4))
    if rng.random() > ends:
        return read(number, key(rng, keys))
    return commit(number) if kind < 0.97 else abort(number)


def line_of(rng, way=None, ends=1.0):
    """Up to 200 calls of transactions; numbers are guessed near the newest begun, so some are of none that is open."""
    keys = rng.choice([3, 8, 20])
    begun = 0
    line = []
    for _ in range(rng.randrange(1, MOST_CALLS + 1)):
        if begun == 0 or rng.random() < 0.12:
            chosen = rng.choice([0, 1]) if way is None else way
            line.append(begin(2 if rng.random() < 0.03 else chosen))
            begun += 1
        else:
            line.append(call_of(rng, max(0, begun - rng.randrange(9)), keys, ends))
    return line


def commit_number(rng, model):
    chosen = rng.random()
    if chosen < 0.04:
        return rng.choice([0, model.now + 2, 4294967295, 4294967296, LARGEST])
    edges = [model.base - 1, model.base, model.safe, model.safe + 1, model.now, model.now + 1]
    return max(0, rng.choice(edges) if chosen < 0.5 else rng.randrange(model.base, model.now + 1))


def writes_made_up(rng):
    keys = sorted(rng.sample(range(256), rng.randrange(1, 5)))
    if rng.random() < 0.1:
        keys = rng.sample(keys, len(keys)) if rng.random() < 0.5 else keys + [rng.choice([256, keys[-1]])]
    told = []
    for k in keys:
        told += [k] + rng.choice([[1, rng.randrange(9)], [1, rng.randrange(9)], [0, 0], [1, 4294967295]])
    if rng.random() < 0.1:
        told[-2:] = rng.choice([[0, 5], [2, 5], [1, 4294967296], [2, 0]])
    return told if rng.random() < 0.95 else (rng.choice([0, len(keys) + 1]),) + tuple(told)


def log_made_up(rng):
    """One with right checks, though not always with right numbers in it."""
    base = rng.choice([0, 0, 1, 7, 4294967294, 4294967295, 4294967296])
    keys = sorted(rng.sample(range(256), rng.randrange(6)))
    pairs = [x for k in keys for x in (k, rng.choice([0, 3, 4294967295]))]
    if pairs and rng.random() < 0.1:
        pairs[rng.randrange(len(pairs))] = rng.choice([0, 5, 256, 4294967296])
    return log_with(base, pairs, *[writes_made_up(rng) for _ in range(rng.randrange(7))])


def list_of(rng, logs):
    numbers = list(rng.choice(logs)) if rng.random() < 0.7 else log_made_up(rng)
    chosen = rng.random()
    if chosen < 0.35:
        numbers = numbers[:rng.randrange(len(numbers) + 1)]
    elif chosen < 0.5:
        numbers[rng.randrange(len(numbers))] = rng.choice([0, 1, 2, 255, 256, 4294967295, 4294967296, LARGEST])
    elif chosen < 0.6:
        numbers += [rng.randrange(4) for _ in range(rng.randrange(9))]
    return numbers


def call_of_the_past(rng, model, logs, keys, rough):
    kind = rng.random()
    if kind < 0.16:
        return at(commit_number(rng, model), key(rng, keys))
    if kind < 0.32:
        return whole(commit_number(rng, model))
    if kind < 0.48:
        return changes(commit_number(rng, model), commit_number(rng, model))
    if kind < 0.60:
        return sync()
    if kind < 0.70:
        return log()
    if kind < 0.78 or rng.random() > rough:
        return shape()
    if kind < 0.90:
        return vacuum(commit_number(rng, model))
    return crash() if kind < 0.94 else recover(list_of(rng, logs))


def calls_of_transactions(rng, model, keys):
    """The next call of one; or several, by which one is begun, writes and is committed at once."""
    chosen = rng.random()
    new = model.last_number + 1
    if chosen < 0.2:
        return [begin(2 if rng.random() < 0.03 else rng.choice([0, 1]))]
    if chosen < 0.3 and len(model.running) < 8:
        writes = [rng.choice([write(new, key(rng, keys), value(rng)), delete(new, key(rng, keys))])
                  for _ in range(rng.randrange(1, 4))]
        return [begin(rng.choice([0, 1]))] + writes + [commit(new)]
    there = list(model.running) or [model.last_number]
    number = rng.choice(there) if rng.random() < 0.95 else rng.randrange(model.last_number + 2)
    return [call_of(rng, number, keys, 1.0)]


def line_of_all(rng):
    """Up to 200 calls of all kinds; the model goes along, so that numbers are often those that matter."""
    keys = rng.choice([3, 8, 20])
    past = rng.choice([0.1, 0.3, 0.5])
    # How often what is there is cut, lost or replaced: seldom, so that there is much of it, or often.
    rough = rng.choice([0.05, 0.3, 1.0])
    model = Model()
    logs = [[0, 0, 32]]
    line = []
    most = rng.randrange(1, MOST_CALLS + 1)
    while len(line) < most:
        if rng.random() < past:
            calls = [call_of_the_past(rng, model, logs, keys, rough)]
        else:
            calls = calls_of_transactions(rng, model, keys)
        for call in calls[:most - len(line)]:
            line.append(call)
            answered = model.answer(call)
            if call == log():
                logs.append(answered[2:])
    if len(flat(line)) > MOST_NUMBERS:
        raise AssertionError("too long a line")
    return line
