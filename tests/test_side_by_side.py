"""Many made-up lines: answered as the model does, and as if each transaction had been done alone."""

import random
import unittest

from tests.lines import ask, at, begin, changes, crash, log, recover, shape, sync, vacuum, whole
from tests.made_up import call_of, line_of, line_of_all
from tests.model import told


class SideBySide(unittest.TestCase):
    def test_as_the_model_answers(self):
        seen = set()
        for seed in range(1500):
            rng = random.Random(seed)
            line = line_of(rng, ends=rng.choice([1.0, 0.3]))
            answered = ask(*line)
            self.assertEqual(answered, told(line), f"seed {seed}")
            seen.update((call[0], min(answer[0], 1)) for call, answer in zip(line, answered))
        # Each refusal that such lines can meet has been met.
        for met in [(0, -1), (0, -6), (1, -1), (1, -4), (2, -1), (2, -4), (3, -1), (3, -4), (4, -1), (4, -4),
                    (5, -4), (6, -4), (6, -7), (7, -5), (7, -4), (7, 0), (7, 1), (8, -4), (8, 0)]:
            self.assertIn(met, seen)

    def test_one_long_transaction_as_the_model_answers(self):
        for seed in range(200):
            rng = random.Random(seed)
            line = [begin(1)] + [call_of(rng, 1, 20, 0.0) for _ in range(199)]
            self.assertEqual(ask(*line), told(line), f"seed {seed}")


    def test_all_calls_as_the_model_answers(self):
        seen = set()
        for seed in range(2500):
            line = line_of_all(random.Random(seed))
            answered = ask(*line)
            self.assertEqual(answered, told(line), f"seed {seed}")
            seen.update((call[0], min(answer[0], 1)) for call, answer in zip(line, answered))
        for met in [(7, -5), (9, -7), (9, -1), (9, 0), (9, 1), (10, -7), (10, 0), (10, 1), (11, -7), (11, 0), (11, 1),
                    (12, -7), (12, -3), (12, 0), (12, 1), (13, 0), (13, 1), (14, 0), (14, 1), (15, 1), (16, -2),
                    (16, 0), (16, 1), (17, 0), (17, 1)]:
            self.assertIn(met, seen)


def put_between(line, more):
    """The line with more() behind each of its calls, cut to 200 calls; and where its own calls stand."""
    longer, own = [], []
    for call in line:
        added = more()
        if len(longer) + 1 + len(added) > 200:
            break
        own.append(len(longer))
        longer += [call] + added
    return longer, own


class Past(unittest.TestCase):
    def test_told_as_it_was_when_it_was_now(self):
        """T4, without the model: whatever is done behind it, a commit's store stays what it was, till it's lost."""
        asked = 0
        for seed in range(300):
            line, own = put_between(line_of_all(random.Random(seed)), lambda: [shape()])
            answered = ask(*line)
            stores = {0: [0, 0]}
            for place in own:
                call, answer, now = line[place][0], answered[place], answered[place + 1][0]
                if call == 14:
                    stores = {n: store for n, store in stores.items() if n <= now}
                elif call == 16 and answer != [-2]:
                    stores = {now: ask(*line[:place + 1], whole(now))[-1]}
                elif call == 7 and answer[0] > 0:
                    stores[now] = ask(*line[:place + 1], whole(now))[-1]
                elif call == 10 and answer != [-7] and line[place][1] in stores:
                    self.assertEqual(answer, stores[line[place][1]])
                    asked += 1
        self.assertGreater(asked, 300)

    def unchanged_by(self, rng, line, choices):
        longer, own = put_between(line, lambda: rng.choice(choices))
        answered = ask(*longer)
        self.assertEqual([answered[place] for place in own], ask(*line[:len(own)]))

    def test_what_only_tells_changes_no_answer(self):
        telling = [[at(1, 1)], [whole(2)], [changes(1, 3)], [changes(0, 0)], [log()], [shape()], []]
        for seed in range(300):
            rng = random.Random(seed)
            self.unchanged_by(rng, line_of_all(rng), telling)

    def test_sync_and_vacuum_change_nothing_for_transactions(self):
        choices = [[sync()], [sync(), vacuum(1)], [vacuum(2)], [vacuum(3)], [sync(), vacuum(5)], []]
        for seed in range(300):
            rng = random.Random(seed)
            self.unchanged_by(rng, line_of(rng), choices)


class Logs(unittest.TestCase):
    def test_cut_anywhere_it_gives_whole_commits_from_the_beginning(self):
        """T5, without the model: the stores of a log cut anywhere are the first ones of those that were told."""
        cuts = 0
        for seed in range(150):
            line = line_of_all(random.Random(seed))[:150]
            now, _, base = ask(*line, shape())[-1][:3]
            if base > 4294967295:
                continue
            numbers = ask(*line, log())[-1][2:]
            stores = ask(*line, *[whole(n) for n in range(base, now + 1)])[len(line):]
            before = -2
            for place in range(len(numbers) + 1):
                count, *behind = ask(recover(numbers[:place]), *[whole(n) for n in range(base, now + 1)])
                if count != [-2]:
                    self.assertIn(count[0], [0] if before == -2 else [before, before + 1])
                    self.assertEqual(behind, stores[:count[0] + 1] + [[-7]] * (now - base - count[0]))
                    cuts += 1
                else:
                    self.assertEqual(before, -2)
                before = count[0]
            self.assertEqual(before, now - base)
        self.assertGreater(cuts, 1000)

    def test_a_crash_leaves_just_what_is_safe(self):
        """T5, without the model: what is told behind a crash is the beginning of what was told before."""
        for seed in range(300):
            line = line_of_all(random.Random(seed))[:150]
            now, _, base, safe = ask(*line, shape())[-1][:4]
            before = ask(*line, *[whole(n) for n in range(base, now + 1)])[len(line):]
            behind = ask(*line, crash(), *[whole(n) for n in range(base, safe + 2)])[len(line):]
            self.assertEqual(behind, [[now - safe]] + before[:safe - base + 1] + [[-7]])
            numbers = ask(*line, log())[-1][2:]
            kept = ask(*line, crash(), log())[-1][2:]
            self.assertEqual(kept, numbers[:len(kept)])


def committed_calls(line, answered):
    """The calls of each transaction whose commit was not lost, with their answers, in the order of the commits."""
    calls = {}
    order = []
    for call, answer in zip(line, answered):
        if call == crash():
            order = order[:len(order) - answer[0]]
        elif call[0] == 0:
            if answer[0] > 0:
                calls[answer[0]] = [(call, answer)]
        elif call[0] <= 8 and answer != [-4]:
            calls[call[1]].append((call, answer))
            if call[0] == 7 and answer[0] > 0:
                order.append(call[1])
    return [calls[number] for number in order]


class AsIfAlone(unittest.TestCase):
    def commits_done_alone(self, line):
        """Does each that was committed again, one after another, in way 1; how many there were."""
        alone, wanted = [], []
        commits = committed_calls(line, ask(*line))
        for new, done in enumerate(commits, start=1):
            alone += [begin(1)] + [[call[0], new] + call[2:] for call, answer in done[1:]]
            wanted += [[new]] + [answer for call, answer in done[1:]]
        self.assertEqual(ask(*alone), wanted)
        return len(commits)

    def test_way_1_done_again_one_after_another(self):
        count = sum(self.commits_done_alone(line_of(random.Random(seed), way=1)) for seed in range(600))
        self.assertGreater(count, 500)

    def test_with_crashes_and_all_else_in_between(self):
        choices = [[]] * 50 + [[sync()], [sync()], [crash()], [vacuum(1)], [vacuum(2)], [log()], [whole(1)], [shape()]]
        count = 0
        for seed in range(600):
            rng = random.Random(seed)
            count += self.commits_done_alone(put_between(line_of(rng, way=1), lambda: rng.choice(choices))[0])
        self.assertGreater(count, 300)


if __name__ == "__main__":
    unittest.main()
