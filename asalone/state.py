"""What the calls of one line work on: the history, what of it is safe, the transactions that are not ended."""

from asalone.history import History
from asalone.transaction import Transaction

MOST_TRANSACTIONS = 8


class State:
    """Transactions are kept by their numbers, in the order in which they began."""

    def __init__(self):
        self.history = History(0, {}, [])
        self.safe = 0
        self.transactions = {}
        self.begun = 0

    def may_begin(self):
        return len(self.transactions) < MOST_TRANSACTIONS

    def begin(self, way):
        """The new transaction's number."""
        self.begun += 1
        self.transactions[self.begun] = Transaction(way, self.history.now(), self.history.newest)
        return self.begun

    def end(self, number):
        self.transactions.pop(number)

    def clash_of(self, transaction):
        """The first commit that it clashes with and the least key by which, in a list; empty if there is none."""
        commits = self.history.commits_behind(transaction.sees)
        for number, writes in enumerate(commits, start=transaction.sees + 1):
            for key in sorted(writes):
                if transaction.minds(key):
                    return [number, key]
        return []

    def sees_below(self, number):
        """Whether a transaction that is not ended sees a commit below that one."""
        for transaction in self.transactions.values():
            if transaction.sees < number:
                return True
        return False

    def not_safe(self):
        """How many commits a crash would lose."""
        return self.history.now() - self.safe

    def make_all_safe(self):
        self.safe = self.history.now()

    def lose_what_is_not_safe(self):
        self.history.drop_above(self.safe)
        self.transactions = {}

    def take_up(self, history):
        """Goes on from a history that was read: how many transactions have begun is none of it, and stays."""
        self.history = history
        self.make_all_safe()
        self.transactions = {}
