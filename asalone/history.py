"""The commits that are told, and the stores they make one after another."""

from asalone.forms import put, with_writes


class History:
    """Commit n's writes stand at place n - base - 1 of the commits."""

    def __init__(self, base, base_store, commits):
        self.base = base
        self.base_store = base_store
        self.commits = commits
        self.newest = self.store_at(self.now())

    def now(self):
        return self.base + len(self.commits)

    def tells(self, number):
        return self.base <= number <= self.now()

    def store_at(self, number):
        """The store as of that commit, made anew from the base's: what is kept grows by the writes alone."""
        store = dict(self.base_store)
        for writes in self.commits[:number - self.base]:
            put(store, writes)
        return store

    def commits_behind(self, number):
        return self.commits[number - self.base:]

    def add_commit(self, writes):
        self.commits.append(writes)
        self.newest = with_writes(self.newest, writes)

    def drop_below(self, number):
        """That commit is the base then."""
        store = self.store_at(number)
        self.commits = self.commits_behind(number)
        self.base_store = store
        self.base = number

    def drop_above(self, number):
        """That commit is the last one then."""
        self.commits = self.commits[:number - self.base]
        self.newest = self.store_at(number)
