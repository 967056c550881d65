"""Stores and writes, and how they are told as numbers: both are dicts, the writes with None for a key taken out."""

HIGHEST_KEY = 255
HIGHEST_VALUE = 4294967295


def put(store, writes):
    """Does the writes in the store itself."""
    for key in writes:
        if writes[key] is not None:
            store[key] = writes[key]
        elif key in store:
            store.pop(key)


def with_writes(store, writes):
    """The store that these writes make of that one, which stays as it is."""
    made = dict(store)
    put(made, writes)
    return made


def writes_between(before, behind):
    """The writes that make of the one store the other."""
    writes = {}
    for key in before:
        if key not in behind:
            writes[key] = None
    for key in behind:
        if behind[key] != before.get(key):
            writes[key] = behind[key]
    return writes


def pairs_of(store, lo, hi):
    """The store from lo to hi, told."""
    pairs = []
    for key in range(lo, hi + 1):
        if key in store:
            pairs.append(key)
            pairs.append(store[key])
    return pairs


def numbers_of(writes):
    """The writes, told."""
    numbers = []
    for key in sorted(writes):
        value = writes[key]
        if value is None:
            numbers.extend([key, 0, 0])
        else:
            numbers.extend([key, 1, value])
    return numbers


def value_answer(value):
    """The answer that tells a key's value; None is for a key that isn't there."""
    if value is None:
        return [0]
    return [1, 1, value]


def list_answer(first, numbers):
    return [first, len(numbers)] + numbers


def part_answer(store, lo, hi):
    """The answer that tells a store from lo to hi."""
    pairs = pairs_of(store, lo, hi)
    return list_answer(len(pairs) // 2, pairs)
