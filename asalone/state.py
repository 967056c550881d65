"""What the calls of one line work on: the commits, the store they make, the transactions that are not ended."""

from asalone.transaction import Transaction, with_writes

MOST_TRANSACTIONS = 8


class State:
    """Commit n's writes stand at place n - 1 of the commits; transactions are kept by their numbers."""

    def __init__(self):
        self.commits = []
        self.store = {}
        self.transactions = {}
        self.begun = 0

    def now(self):
        return len(self.commits)

    def may_begin(self):
        return len(self.transactions) < MOST_TRANSACTIONS

    def begin(self, way):
        """The new transaction's number."""
        self.begun += 1
        self.transactions[self.begun] = Transaction(way, self.now(), self.store)
        return self.begun

    def end(self, number):
        self.transactions.pop(number)

    def clash_of(self, transaction):
        """The first commit that it clashes with and the least key by which, in a list; empty if there is none."""
        for place in range(transaction.sees, self.now()):
            for key in sorted(self.commits[place]):
                if transaction.minds(key):
                    return [place + 1, key]
        return []

    def commit(self, writes):
        """The new commit's number."""
        self.commits.append(writes)
        self.store = with_writes(self.store, writes)
        return self.now()
