"""T4: the past is told as it was: at, all, changes."""

import unittest

from tests.lines import LARGEST, abort, ask, at, begin, changes, commit, delete, filled, last, log_with, read, recover
from tests.lines import span, sync, vacuum, whole, write

# What each of the commits 1 to 8 writes: a key with its value, or None if it is taken out.
WROTE = [{5: 50, 0: 1}, {5: 51}, {5: None, 255: 9}, {7: None}, {5: 50}, {0: None, 255: None, 5: None},
         {255: 4294967295, 0: 0}, {0: 0, 9: 0}]


def committed(writes, number):
    line = [begin(0)]
    for key, value in writes.items():
        line.append(delete(number, key) if value is None else write(number, key, value))
    return line + [commit(number)]


def stores(wrote):
    """The stores as of 0, 1, .. that these writes make."""
    made = [{}]
    for writes in wrote:
        new = {**made[-1], **writes}
        made.append({key: value for key, value in new.items() if value is not None})
    return made


def pairs(store):
    return [x for key in sorted(store) for x in (key, store[key])]


def told_changes(one, other):
    told = []
    for key in sorted(set(one) | set(other)):
        if key not in other:
            told += [key, 0, 0]
        elif key not in one or one[key] != other[key]:
            told += [key, 1, other[key]]
    return [len(told) // 3, len(told)] + told


LINE = [call for number, writes in enumerate(WROTE, start=1) for call in committed(writes, number)]
STORES = stores(WROTE)


class Nothing(unittest.TestCase):
    def test_commit_0_is_empty(self):
        self.assertEqual(ask(at(0, 0), at(0, 255), whole(0), changes(0, 0)), [[0], [0], [0, 0], [0, 0]])

    def test_no_commit_1_yet(self):
        line = [at(1, 0), whole(1), changes(0, 1), changes(1, 0), changes(1, 1)]
        self.assertEqual(ask(*line), [[-7]] * 5)

    def test_none_while_it_is_not_committed_or_is_aborted(self):
        line = [begin(), write(1, 5, 5), whole(0), whole(1), abort(1), whole(0), whole(1), begin(), commit(2), whole(1)]
        self.assertEqual([ask(*line)[i] for i in (2, 3, 5, 6, 9)], [[0, 0], [-7], [0, 0], [-7], [-7]])


class AsItWas(unittest.TestCase):
    def test_at_every_commit_and_key(self):
        for n, store in enumerate(STORES):
            for keys in (range(128), range(128, 256)):
                told = ask(*LINE, *[at(n, key) for key in keys])[len(LINE):]
                self.assertEqual(told, [[1, 1, store[key]] if key in store else [0] for key in keys])

    def test_all_of_every_commit(self):
        told = ask(*LINE, *[whole(n) for n in range(len(STORES))])[len(LINE):]
        self.assertEqual(told, [[len(store), 2 * len(store)] + pairs(store) for store in STORES])

    def test_written_out(self):
        self.assertEqual(ask(*LINE, *[whole(n) for n in range(9)])[len(LINE):],
                         [[0, 0], [2, 4, 0, 1, 5, 50], [2, 4, 0, 1, 5, 51], [2, 4, 0, 1, 255, 9],
                          [2, 4, 0, 1, 255, 9], [3, 6, 0, 1, 5, 50, 255, 9], [0, 0],
                          [2, 4, 0, 0, 255, 4294967295], [3, 6, 0, 0, 9, 0, 255, 4294967295]])

    def test_told_the_same_while_commits_come(self):
        line, asked = [], []
        for number, writes in enumerate(WROTE, start=1):
            line += committed(writes, number)
            asked += [(len(line) + n, n) for n in range(number + 1)]
            line += [whole(n) for n in range(number + 1)]
        told = ask(*line)
        for place, n in asked:
            self.assertEqual(told[place][2:], pairs(STORES[n]))

    def test_what_one_sees_is_the_store_as_of_its_commit(self):
        line = []
        for number, writes in enumerate(WROTE[:7], start=1):
            line += committed(writes, 2 * number - 1) + [begin()]
        line += [call for n in range(1, 8) for call in (span(2 * n, 0, 255), whole(n))]
        told = ask(*line)[-14:]
        self.assertEqual(told[::2], told[1::2])
        self.assertEqual(told[1::2], [[len(store), 2 * len(store)] + pairs(store) for store in STORES[1:8]])

    def test_a_refused_commit_is_none_of_it(self):
        line = [begin(), write(1, 5, 1), write(1, 6, 1)] + filled([(5, 2)], 2) + [commit(1), whole(1), whole(2), at(1, 6)]
        self.assertEqual(ask(*line)[-4:], [[-5, 2, 1, 5], [1, 2, 5, 2], [-7], [0]])

    def test_one_that_goes_on_writing_changes_no_commit(self):
        line = filled([(5, 2)]) + [begin(), write(2, 5, 9), delete(2, 5), write(2, 6, 6), whole(1), whole(0), at(1, 5)]
        self.assertEqual(ask(*line)[-3:], [[1, 2, 5, 2], [0, 0], [1, 1, 2]])

    def test_many_keys(self):
        line = filled([(255 - key, key) for key in range(190)]) + [whole(1), changes(0, 1), changes(1, 0)]
        told = ask(*line)[-3:]
        self.assertEqual(told[0], [190, 380] + [x for key in range(66, 256) for x in (key, 255 - key)])
        self.assertEqual(told[1], [190, 570] + [x for key in range(66, 256) for x in (key, 1, 255 - key)])
        self.assertEqual(told[2], [190, 570] + [x for key in range(66, 256) for x in (key, 0, 0)])

    def test_all_256_keys(self):
        line = [recover(log_with(3, [x for key in range(256) for x in (key, key + 1)])), whole(3), at(3, 0), at(3, 255)]
        self.assertEqual(ask(*line), [[0], [256, 512] + [x for key in range(256) for x in (key, key + 1)],
                                      [1, 1, 1], [1, 1, 256]])


class Changes(unittest.TestCase):
    def test_between_every_two_commits(self):
        for a in range(len(STORES)):
            told = ask(*LINE, *[changes(a, b) for b in range(len(STORES))])[len(LINE):]
            self.assertEqual(told, [told_changes(STORES[a], STORES[b]) for b in range(len(STORES))])

    def test_of_a_commit_with_itself(self):
        told = ask(*LINE, *[changes(n, n) for n in range(len(STORES))])[len(LINE):]
        self.assertEqual(told, [[0, 0]] * len(STORES))

    def test_written_out_in_both_directions(self):
        line = filled([(1, 10), (2, 20), (4, 40)]) + committed({2: 21, 3: 30, 1: None, 4: 40}, 2)
        self.assertEqual(ask(*line, changes(1, 2), changes(2, 1))[-2:],
                         [[3, 9, 1, 0, 0, 2, 1, 21, 3, 1, 30], [3, 9, 1, 1, 10, 2, 1, 20, 3, 0, 0]])

    def test_the_same_value_written_again_is_no_difference(self):
        line = filled([(1, 10)]) + filled([(1, 10)], 2) + [changes(1, 2), changes(2, 1)]
        self.assertEqual(ask(*line)[-2:], [[0, 0], [0, 0]])

    def test_what_came_and_went_is_no_difference(self):
        line = filled([(1, 10)]) + committed({2: 5, 1: 11}, 2) + committed({2: None, 1: 10}, 3)
        self.assertEqual(ask(*line, changes(1, 3), changes(3, 1), changes(1, 2))[-3:],
                         [[0, 0], [0, 0], [2, 6, 1, 1, 11, 2, 1, 5]])

    def test_value_0_is_not_the_same_as_not_there(self):
        line = filled([(1, 0), (2, 7)]) + committed({1: None, 2: 0}, 2)
        self.assertEqual(ask(*line, changes(0, 1), changes(1, 2), changes(2, 1))[-3:],
                         [[2, 6, 1, 1, 0, 2, 1, 7], [2, 6, 1, 0, 0, 2, 1, 0], [2, 6, 1, 1, 0, 2, 1, 7]])

    def test_done_as_writes_they_make_the_other_store(self):
        for a in range(len(STORES)):
            for b in range(len(STORES)):
                told = last(*LINE, changes(a, b))[2:]
                made = dict(STORES[a])
                for key, there, value in zip(told[::3], told[1::3], told[2::3]):
                    made.pop(key, None)
                    if there:
                        made[key] = value
                self.assertEqual(made, STORES[b])


class Refused(unittest.TestCase):
    def test_above_now(self):
        for n in (9, 10, 256, LARGEST):
            line = [at(n, 5), whole(n), changes(n, 0), changes(0, n), changes(n, n)]
            self.assertEqual(ask(*LINE, *line)[len(LINE):], [[-7]] * 5)

    def test_now_itself_is_told(self):
        line = [at(8, 5), whole(8), changes(8, 0), changes(0, 8)]
        self.assertEqual([part[0] for part in ask(*LINE, *line)[len(LINE):]], [0, 3, 3, 3])

    def test_below_the_base(self):
        line = LINE + [sync(), vacuum(3)]
        for n in (0, 1, 2):
            told = ask(*line, at(n, 5), whole(n), changes(n, 3), changes(3, n), changes(n, n))[len(line):]
            self.assertEqual(told, [[-7]] * 5)
        self.assertEqual(ask(*line, at(3, 255), whole(3), changes(3, 3))[len(line):],
                         [[1, 1, 9], [2, 4, 0, 1, 255, 9], [0, 0]])

    def test_key_above_255(self):
        for key in (256, 4294967296, LARGEST):
            self.assertEqual(ask(*LINE, at(8, key), at(0, key))[-2:], [[-1], [-1]])
        self.assertEqual(last(*LINE, at(8, 255)), [1, 1, 4294967295])

    def test_commit_before_key(self):
        line = LINE + [sync(), vacuum(3)]
        told = ask(*line, at(9, 256), at(LARGEST, LARGEST), at(2, 256), at(2, LARGEST), at(3, 256))[len(line):]
        self.assertEqual(told, [[-7], [-7], [-7], [-7], [-1]])

    def test_either_of_two_may_be_wrong(self):
        line = LINE + [sync(), vacuum(3)]
        told = ask(*line, changes(2, 9), changes(9, 2), changes(8, 9), changes(9, 8), changes(LARGEST, 3),
                   changes(3, 8))[len(line):]
        self.assertEqual(told[:5], [[-7]] * 5)
        self.assertEqual(told[5], told_changes(STORES[3], STORES[8]))

    def test_the_past_counts_as_no_read(self):
        line = filled([(5, 1)]) + [begin(1)] + [at(1, 5), whole(1)] * 35 + [read(2, 7)] * 64 + [read(2, 7)]
        self.assertEqual(ask(*line)[-2:], [[0], [-6]])
        line = filled([(5, 1)]) + [begin(1), at(1, 5), whole(1), write(2, 6, 6)] + filled([(5, 2)], 3) + [commit(2)]
        self.assertEqual(last(*line), [3])


if __name__ == "__main__":
    unittest.main()
