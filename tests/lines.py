"""Lines of calls for the tests, and their answers call by call."""

from asalone.store import answers

LARGEST = 9223372036854775807


def begin(way=0):
    return [0, way]


def read(number, key):
    return [1, number, key]


def span(number, lo, hi):
    return [2, number, lo, hi]


def write(number, key, value):
    return [3, number, key, value]


def delete(number, key):
    return [4, number, key]


def mark(number):
    return [5, number]


def back(number, to):
    return [6, number, to]


def commit(number):
    return [7, number]


def abort(number):
    return [8, number]


def flat(calls):
    return [x for call in calls for x in call]


def split(told):
    """The answers one by one; fails where a count does not fit what follows."""
    parts = []
    place = 0
    while place < len(told):
        count = told[place]
        part = told[place + 1:place + 1 + count]
        if len(part) != count or count < 1:
            raise AssertionError(f"count {count} at {place} does not fit: {told}")
        parts.append(part)
        place += 1 + count
    return parts


def ask(*calls):
    """Each call's answer, a list each."""
    parts = split(answers(flat(calls)))
    if len(parts) != len(calls):
        raise AssertionError(f"{len(calls)} calls, {len(parts)} answers")
    return parts


def last(*calls):
    return ask(*calls)[-1]


def filled(pairs, number=1):
    """Calls by which transaction `number` writes these pairs and is committed."""
    return [begin(0)] + [write(number, k, v) for k, v in pairs] + [commit(number)]
