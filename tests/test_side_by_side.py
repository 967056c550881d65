"""Many made-up lines: answered as the model does, and as if each transaction had been done alone."""

import random
import unittest

from tests.lines import LARGEST, abort, ask, back, begin, commit, delete, mark, read, span, write
from tests.model import told


def key(rng, keys):
    # Few keys, so that transactions meet; the edges now and then.
    return rng.choice([0, 255, 256, LARGEST]) if rng.random() < 0.04 else rng.randrange(keys)


def value(rng):
    return rng.choice([0, 4294967295, 4294967296, LARGEST]) if rng.random() < 0.06 else rng.randrange(1000)


def call_of(rng, number, keys, ends):
    kind = rng.random()
    if kind < 0.28:
        return read(number, key(rng, keys))
    if kind < 0.38:
        lo = key(rng, keys)
        return span(number, lo, key(rng, keys) if rng.random() < 0.2 else lo + rng.randrange(3))
    if kind < 0.58:
        return write(number, key(rng, keys), value(rng))
    if kind < 0.68:
        return delete(number, key(rng, keys))
    if kind < 0.76:
        return mark(number)
    if kind < 0.84:
        return back(number, rng.randrange(4))
    if rng.random() > ends:
        return read(number, key(rng, keys))
    return commit(number) if kind < 0.97 else abort(number)


def line_of(rng, way=None, ends=1.0):
    """Up to 200 calls; numbers are guessed near the newest begun, so some are of none that is open."""
    keys = rng.choice([3, 8, 20])
    begun = 0
    line = []
    for _ in range(rng.randrange(1, 201)):
        if begun == 0 or rng.random() < 0.12:
            chosen = rng.choice([0, 1]) if way is None else way
            line.append(begin(2 if rng.random() < 0.03 else chosen))
            begun += 1
        else:
            line.append(call_of(rng, max(0, begun - rng.randrange(9)), keys, ends))
    return line


class SideBySide(unittest.TestCase):
    def test_as_the_model_answers(self):
        seen = set()
        for seed in range(1500):
            rng = random.Random(seed)
            line = line_of(rng, ends=rng.choice([1.0, 0.3]))
            answered = ask(*line)
            self.assertEqual(answered, told(line), f"seed {seed}")
            seen.update((call[0], min(answer[0], 1)) for call, answer in zip(line, answered))
        # Each refusal that such lines can meet has been met.
        for met in [(0, -1), (0, -6), (1, -1), (1, -4), (2, -1), (2, -4), (3, -1), (3, -4), (4, -1), (4, -4),
                    (5, -4), (6, -4), (6, -7), (7, -5), (7, -4), (7, 0), (7, 1), (8, -4), (8, 0)]:
            self.assertIn(met, seen)

    def test_one_long_transaction_as_the_model_answers(self):
        for seed in range(200):
            rng = random.Random(seed)
            line = [begin(1)] + [call_of(rng, 1, 20, 0.0) for _ in range(199)]
            self.assertEqual(ask(*line), told(line), f"seed {seed}")


def committed_calls(line, answered):
    """The calls of each transaction that made a commit, with their answers, in the order of the commits."""
    calls = {}
    order = []
    for call, answer in zip(line, answered):
        if call[0] == 0:
            if answer[0] > 0:
                calls[answer[0]] = [(call, answer)]
        elif answer != [-4]:
            calls[call[1]].append((call, answer))
            if call[0] == 7 and answer[0] > 0:
                order.append(call[1])
    return [(number, calls[number]) for number in order]


class AsIfAlone(unittest.TestCase):
    def test_way_1_done_again_one_after_another(self):
        commits = 0
        for seed in range(600):
            line = line_of(random.Random(seed), way=1)
            alone, wanted = [], []
            for new, (number, done) in enumerate(committed_calls(line, ask(*line)), start=1):
                alone += [begin(1)] + [[call[0], new] + call[2:] for call, answer in done[1:]]
                wanted += [[new]] + [answer for call, answer in done[1:]]
                commits += 1
            self.assertEqual(ask(*alone), wanted, f"seed {seed}")
        self.assertGreater(commits, 500)


if __name__ == "__main__":
    unittest.main()
