"""Lines of calls for the tests, and their answers call by call."""

from asalone.store import answers

LARGEST = 9223372036854775807


def begin(way=0):
    return [0, way]


def read(number, key):
    return [1, number, key]


def span(number, lo, hi):
    return [2, number, lo, hi]


def write(number, key, value):
    return [3, number, key, value]


def delete(number, key):
    return [4, number, key]


def mark(number):
    return [5, number]


def back(number, to):
    return [6, number, to]


def commit(number):
    return [7, number]


def abort(number):
    return [8, number]


def at(number, key):
    return [9, number, key]


def whole(number):
    """The call `all`."""
    return [10, number]


def changes(one, other):
    return [11, one, other]


def vacuum(number):
    return [12, number]


def sync():
    return [13]


def crash():
    return [14]


def log():
    return [15]


def recover(numbers):
    return [16, len(numbers)] + list(numbers)


def shape():
    return [17]


def flat(calls):
    return [x for call in calls for x in call]


def split(told):
    """The answers one by one; fails where a count does not fit what follows."""
    parts = []
    place = 0
    while place < len(told):
        count = told[place]
        part = told[place + 1:place + 1 + count]
        if len(part) != count or count < 1:
            raise AssertionError(f"count {count} at {place} does not fit: {told}")
        parts.append(part)
        place += 1 + count
    return parts


def ask(*calls):
    """Each call's answer, a list each."""
    parts = split(answers(flat(calls)))
    if len(parts) != len(calls):
        raise AssertionError(f"{len(calls)} calls, {len(parts)} answers")
    return parts


def last(*calls):
    return ask(*calls)[-1]


def filled(pairs, number=1):
    """Calls by which transaction `number` writes these pairs and is committed."""
    return [begin(0)] + [write(number, k, v) for k, v in pairs] + [commit(number)]


def check(before, numbers):
    """By powers, not step by step as the program does it."""
    count = len(numbers)
    total = before * 31 ** count + sum((x + 1) * 31 ** (count - 1 - place) for place, x in enumerate(numbers))
    return total % 2 ** 32


def log_with(base, pairs, *commits):
    """A log with right checks, whatever stands in it: pairs and each commit's writes are flat lists.

    How many keys there are is counted; a commit that is a tuple has that number ahead of its numbers itself.
    """
    numbers = [base, len(pairs) // 2] + list(pairs)
    before = check(0, numbers)
    numbers.append(before)
    for wrote in commits:
        part = list(wrote) if isinstance(wrote, tuple) else [len(wrote) // 3] + wrote
        before = check(before, part)
        numbers += part + [before]
    return numbers


def told_log(*calls):
    """The log that the program tells behind these calls."""
    answered = last(*calls, log())
    if answered[0] != answered[1] or answered[0] != len(answered) - 2:
        raise AssertionError(f"not a log's answer: {answered}")
    return answered[2:]
