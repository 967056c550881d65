"""The document's words done slowly: whole stores kept, every key gone through. For comparison with the program."""

from tests.lines import check


class Cut(Exception):
    pass


class Model:
    def __init__(self):
        # By commits' numbers: the store as of it, and what it wrote, a key with (1, value) or (0, 0).
        self.stores = {0: {}}
        self.wrote = {}
        self.base = 0
        self.now = 0
        self.safe = 0
        self.running = {}
        self.last_number = 0

    def view(self, t):
        return self.made(self.stores[t["sees"]], t["writes"])

    @staticmethod
    def made(store, writes):
        new = {}
        for k in range(256):
            there, v = writes.get(k, (k in store, store.get(k)))
            if there:
                new[k] = v
        return new

    def begin(self, way):
        if way > 1:
            return [-1]
        if len(self.running) == 8:
            return [-6]
        self.last_number += 1
        self.running[self.last_number] = {"way": way, "sees": self.now, "writes": {}, "read": [], "marks": []}
        return [self.last_number]

    def read(self, t, k):
        if k > 255:
            return [-1]
        if k not in t["writes"]:
            if len(t["read"]) == 64:
                return [-6]
            t["read"].append({k})
        seen = self.view(t)
        return [1, 1, seen[k]] if k in seen else [0]

    def span(self, t, lo, hi):
        if hi > 255 or hi < lo:
            return [-1]
        if len(t["read"]) == 64:
            return [-6]
        t["read"].append(set(range(lo, hi + 1)))
        pairs = sorted((k, v) for k, v in self.view(t).items() if lo <= k <= hi)
        return [len(pairs), 2 * len(pairs)] + [x for pair in pairs for x in pair]

    def write(self, t, k, v):
        if k > 255 or v > 4294967295:
            return [-1]
        t["writes"] = {**t["writes"], k: (1, v)}
        return [0]

    def delete(self, t, k):
        if k > 255:
            return [-1]
        t["writes"] = {**t["writes"], k: (0, 0)}
        return [0]

    def mark(self, t):
        if len(t["marks"]) == 16:
            return [-6]
        t["marks"].append(t["writes"])
        return [len(t["marks"]) - 1]

    def back(self, t, m):
        if m >= len(t["marks"]):
            return [-7]
        t["writes"] = t["marks"][m]
        t["marks"] = t["marks"][:m + 1]
        return [len(t["writes"])]

    def add(self, writes):
        self.now += 1
        self.stores[self.now] = self.made(self.stores[self.now - 1], writes)
        self.wrote[self.now] = writes

    def commit(self, number):
        t = self.running.pop(number)
        if not t["writes"]:
            return [0]
        minded = set(t["writes"])
        if t["way"] == 1:
            minded = minded.union(*t["read"])
        for n in range(t["sees"] + 1, self.now + 1):
            if minded & set(self.wrote[n]):
                return [-5, 2, n, min(minded & set(self.wrote[n]))]
        self.add(t["writes"])
        return [self.now]

    def abort(self, number):
        self.running.pop(number)
        return [0]

    def at(self, n, k):
        if not self.base <= n <= self.now:
            return [-7]
        if k > 255:
            return [-1]
        return [1, 1, self.stores[n][k]] if k in self.stores[n] else [0]

    def whole(self, n):
        if not self.base <= n <= self.now:
            return [-7]
        store = self.stores[n]
        return [len(store), 2 * len(store)] + [x for k in sorted(store) for x in (k, store[k])]

    def changes(self, a, b):
        if min(a, b) < self.base or max(a, b) > self.now:
            return [-7]
        told = []
        for k in range(256):
            if k in self.stores[b] and self.stores[b][k] != self.stores[a].get(k, -1):
                told.append((k, 1, self.stores[b][k]))
            elif k in self.stores[a] and k not in self.stores[b]:
                told.append((k, 0, 0))
        return [len(told), 3 * len(told)] + [x for part in told for x in part]

    def vacuum(self, n):
        if n < self.base or n > self.safe:
            return [-7]
        if any(t["sees"] < n for t in self.running.values()):
            return [-3]
        gone = n - self.base
        for below in range(self.base, n):
            del self.stores[below]
        self.base = n
        return [gone]

    def sync(self):
        new, self.safe = self.now - self.safe, self.now
        return [new]

    def crash(self):
        lost = self.now - self.safe
        while self.now > self.safe:
            del self.stores[self.now], self.wrote[self.now]
            self.now -= 1
        self.running = {}
        return [lost]

    def log(self):
        told = [self.base] + self.whole(self.base)[:1] + self.whole(self.base)[2:]
        h = check(0, told)
        told.append(h)
        for n in range(self.base + 1, self.now + 1):
            part = [len(self.wrote[n])] + [x for k in sorted(self.wrote[n]) for x in (k,) + self.wrote[n][k]]
            h = check(h, part)
            told += part + [h]
        return [len(told), len(told)] + told

    def recover(self, count, *numbers):
        if count != len(numbers):
            raise AssertionError("the list is not as long as told")
        rest = list(numbers)
        try:
            base = take(rest, 1, 2 ** 32)[0]
            count = take(rest, 1, 257)[0]
            pairs = take(rest, 2 * count, 2 ** 32)
            h = check(0, [base, count] + pairs)
            wanted(rising(pairs[::2]) and take(rest, 1, 2 ** 32) == [h])
        except Cut:
            return [-2]
        self.base = self.now = base
        self.stores = {base: dict(zip(pairs[::2], pairs[1::2]))}
        self.wrote = {}
        self.running = {}
        try:
            while True:
                count = take(rest, 1, 257)[0]
                told = take(rest, 3 * count, 2 ** 32)
                h = check(h, [count] + told)
                writes = list(zip(told[1::3], told[2::3]))
                wanted(count > 0 and rising(told[::3]) and take(rest, 1, 2 ** 32) == [h])
                wanted(all(there == 1 or (there, v) == (0, 0) for there, v in writes))
                self.add(dict(zip(told[::3], writes)))
        except Cut:
            self.safe = self.now
            return [self.now - base]

    def shape(self):
        told = [[number, t["sees"], t["way"], len(t["writes"]), len(t["read"]), len(t["marks"])]
                for number, t in sorted(self.running.items())]
        return [self.now, 2, self.base, self.safe, 6 * len(told)] + [x for part in told for x in part]

    def answer(self, call):
        number, given = call[0], call[1:]
        if 1 <= number <= 8:
            if given[0] not in self.running:
                return [-4]
            if number < 7:
                given = [self.running[given[0]]] + given[1:]
        return [self.begin, self.read, self.span, self.write, self.delete, self.mark, self.back, self.commit,
                self.abort, self.at, self.whole, self.changes, self.vacuum, self.sync, self.crash, self.log,
                self.recover, self.shape][number](*given)


def take(rest, count, limit):
    """The next numbers of a log, each below the limit."""
    part, rest[:] = rest[:count], rest[count:]
    wanted(len(part) == count and all(x < limit for x in part))
    return part


def rising(keys):
    return keys == sorted(set(keys)) and all(k < 256 for k in keys)


def wanted(right):
    if not right:
        raise Cut


def told(calls):
    model = Model()
    return [model.answer(call) for call in calls]
