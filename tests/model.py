"""The document's words done slowly: whole stores kept, every key gone through. For comparison with the program."""


class Model:
    def __init__(self):
        self.stores = [{}]
        self.wrote = [set()]
        self.running = {}
        self.last_number = 0

    def view(self, t):
        seen = {}
        for k in range(256):
            if k in t["writes"]:
                if t["writes"][k][0]:
                    seen[k] = t["writes"][k][1]
            elif k in self.stores[t["sees"]]:
                seen[k] = self.stores[t["sees"]][k]
        return seen

    def begin(self, way):
        if way > 1:
            return [-1]
        if len(self.running) == 8:
            return [-6]
        self.last_number += 1
        self.running[self.last_number] = {"way": way, "sees": len(self.stores) - 1, "writes": {}, "read": [], "marks": []}
        return [self.last_number]

    def read(self, t, k):
        if k > 255:
            return [-1]
        if k not in t["writes"]:
            if len(t["read"]) == 64:
                return [-6]
            t["read"].append({k})
        seen = self.view(t)
        return [1, 1, seen[k]] if k in seen else [0]

    def span(self, t, lo, hi):
        if hi > 255 or hi < lo:
            return [-1]
        if len(t["read"]) == 64:
            return [-6]
        t["read"].append(set(range(lo, hi + 1)))
        pairs = sorted((k, v) for k, v in self.view(t).items() if lo <= k <= hi)
        return [len(pairs), 2 * len(pairs)] + [x for pair in pairs for x in pair]

    def write(self, t, k, v):
        if k > 255 or v > 4294967295:
            return [-1]
        t["writes"] = {**t["writes"], k: (1, v)}
        return [0]

    def delete(self, t, k):
        if k > 255:
            return [-1]
        t["writes"] = {**t["writes"], k: (0, 0)}
        return [0]

    def mark(self, t):
        if len(t["marks"]) == 16:
            return [-6]
        t["marks"].append(t["writes"])
        return [len(t["marks"]) - 1]

    def back(self, t, m):
        if m >= len(t["marks"]):
            return [-7]
        t["writes"] = t["marks"][m]
        t["marks"] = t["marks"][:m + 1]
        return [len(t["writes"])]

    def commit(self, number):
        t = self.running.pop(number)
        if not t["writes"]:
            return [0]
        minded = set(t["writes"])
        if t["way"] == 1:
            minded = minded.union(*t["read"])
        for n in range(t["sees"] + 1, len(self.stores)):
            if minded & self.wrote[n]:
                return [-5, 2, n, min(minded & self.wrote[n])]
        new = {k: v for k, v in self.stores[-1].items() if k not in t["writes"]}
        new.update({k: v for k, (there, v) in t["writes"].items() if there})
        self.stores.append(new)
        self.wrote.append(set(t["writes"]))
        return [len(self.stores) - 1]

    def answer(self, call):
        number, given = call[0], call[1:]
        if number == 0:
            return self.begin(*given)
        if given[0] not in self.running:
            return [-4]
        if number == 7:
            return self.commit(given[0])
        if number == 8:
            self.running.pop(given[0])
            return [0]
        method = {1: self.read, 2: self.span, 3: self.write, 4: self.delete, 5: self.mark, 6: self.back}[number]
        return method(self.running[given[0]], *given[1:])


def told(calls):
    model = Model()
    return [model.answer(call) for call in calls]
