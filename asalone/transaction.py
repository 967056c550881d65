"""One transaction: what it sees, what it wrote, what it has read, its marks."""

from asalone.forms import with_writes

MOST_READS = 64
MOST_MARKS = 16


class Transaction:
    """A key that is taken out stands in the writes with None: it is written, and so minded, like the others."""

    def __init__(self, way, sees, store):
        self.way = way
        self.sees = sees
        # Kept without a copy: a store is never changed, a commit puts a new one in its place.
        self.store = store
        self.writes = {}
        self.reads = []
        self.marks = []

    def has_written(self, key):
        return key in self.writes

    def may_read(self):
        return len(self.reads) < MOST_READS

    def note_read(self, lo, hi):
        # One more even if it has read the same before: what is bounded is how often it has read.
        self.reads.append((lo, hi))

    def value_at(self, key):
        """The key's value in what the transaction sees, or None if it isn't there."""
        if key in self.writes:
            return self.writes[key]
        return self.store.get(key)

    def seen(self):
        return with_writes(self.store, self.writes)

    def write(self, key, value):
        self.writes[key] = value

    def take_out(self, key):
        self.writes[key] = None

    def may_mark(self):
        return len(self.marks) < MOST_MARKS

    def mark(self):
        """The new mark's number."""
        self.marks.append(dict(self.writes))
        return len(self.marks) - 1

    def has_mark(self, number):
        return number < len(self.marks)

    def go_back(self, number):
        # A copy, since the mark stays and one may come back to it again.
        self.writes = dict(self.marks[number])
        self.marks = self.marks[:number + 1]

    def has_read(self, key):
        for lo, hi in self.reads:
            if lo <= key <= hi:
                return True
        return False

    def minds(self, key):
        if key in self.writes:
            return True
        return self.way == 1 and self.has_read(key)
