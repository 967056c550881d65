"""T5: the log as it is told, and read back from wherever it's cut."""

import unittest

from tests.lines import LARGEST, ask, at, abort, begin, changes, check, commit, crash, delete, filled, flat, last, log
from tests.lines import log_with, mark, read, recover, shape, span, sync, told_log, vacuum, whole, write
from asalone.store import answers

BILLIONS = 4294967296

# Base 2 with three keys, then the commits 3 to 7.
LINE = (filled([(1, 10), (2, 20), (255, 4294967295)]) + filled([(0, 0)], 2) + [begin(), delete(3, 2), write(3, 1, 11),
        commit(3)] + filled([(9, 9), (8, 8), (200, 0)], 4) + [begin(), delete(5, 77), commit(5)]
        + filled([(1, 4294967295)], 6) + [sync(), vacuum(2)] + filled([(2, 2), (1, 1)], 7))
LOG = told_log(*LINE)
# Behind which place of the log its beginning, and each commit, is whole.
ENDS = [11, 19, 30, 35, 40, 48]


def pairs_of(store):
    return [x for key in sorted(store) for x in (key, store[key])]


def read_whole(place):
    """How many commits of LOG are whole up to that place; -1: not even its beginning."""
    return sum(end <= place for end in ENDS) - 1


class Told(unittest.TestCase):
    def test_of_a_new_state(self):
        self.assertEqual(ask(log()), [[3, 3, 0, 0, 32]])

    def test_written_out(self):
        self.assertEqual(last(*filled([(5, 9)]), log()), [8, 8, 0, 0, 32, 1, 5, 1, 9, 29618092])

    def test_checks_step_by_step(self):
        h = 0
        for place, x in enumerate(LOG, start=1):
            if place in ENDS:
                self.assertEqual(x, h)
            else:
                h = (31 * h + x + 1) % BILLIONS

    def test_a_check_is_below_2_to_the_32(self):
        numbers = told_log(*filled([(k, 4294967295) for k in range(50)]))
        self.assertLess(max(numbers), BILLIONS)
        self.assertEqual(numbers, log_with(0, [], [x for k in range(50) for x in (k, 1, 4294967295)]))

    def test_base_store_and_commits_in_order(self):
        self.assertEqual(LOG, log_with(2, [0, 0, 1, 10, 2, 20, 255, 4294967295], [1, 1, 11, 2, 0, 0],
                                       [8, 1, 8, 9, 1, 9, 200, 1, 0], [77, 0, 0], [1, 1, 4294967295],
                                       [1, 1, 1, 2, 1, 2]))
        self.assertEqual(len(LOG), ENDS[-1])

    def test_those_that_are_not_safe_too(self):
        line = filled([(1, 1)]) + [sync()] + filled([(2, 2)], 2)
        self.assertEqual(told_log(*line), log_with(0, [], [1, 1, 1], [2, 1, 2]))

    def test_open_ones_are_none_of_it(self):
        line = filled([(1, 1)]) + [begin(), write(2, 5, 5), read(2, 1), mark(2)]
        self.assertEqual(told_log(*line), log_with(0, [], [1, 1, 1]))

    def test_one_that_wrote_nothing_or_clashed_is_none_of_it(self):
        line = [begin(), begin(), commit(2), write(1, 1, 2)] + filled([(1, 1)], 3) + [commit(1)]
        self.assertEqual(told_log(*line), log_with(0, [], [1, 1, 1]))

    def test_a_delete_of_what_is_not_there_is_told(self):
        self.assertEqual(told_log(begin(), delete(1, 7), commit(1)), log_with(0, [], [7, 0, 0]))

    def test_what_was_gone_back_behind_is_none_of_it(self):
        line = [begin(), write(1, 3, 3), mark(1), write(1, 4, 4), [6, 1, 0], commit(1)]
        self.assertEqual(told_log(*line), log_with(0, [], [3, 1, 3]))

    def test_twice_the_same_and_changes_nothing(self):
        told = ask(*LINE, shape(), log(), log(), shape())
        self.assertEqual(told[-4], told[-1])
        self.assertEqual(told[-3], told[-2])


class Recovered(unittest.TestCase):
    asked = [whole(n) for n in range(9)] + [changes(a, b) for a, b in ((2, 7), (7, 2), (3, 5))] + [log()]

    def test_on_a_new_state_all_is_as_it_was_told(self):
        before = ask(*LINE, *self.asked)[len(LINE):]
        told = ask(recover(LOG), *self.asked, shape())
        self.assertEqual(told[0], [5])
        self.assertEqual(told[1:-1], before)
        self.assertEqual(told[-1], [7, 2, 2, 7, 0])

    def test_on_the_same_line(self):
        line = LINE + [begin(1), write(8, 1, 1), mark(8)] + self.asked + [recover(LOG), shape()] + self.asked
        count = len(self.asked)
        told = ask(*line)
        self.assertEqual(told[-count:], told[-2 * count - 2:-count - 2])
        self.assertEqual(told[-count - 2:-count], [[5], [7, 2, 2, 7, 0]])

    def test_no_transaction_is_open_and_their_numbers_go_on(self):
        line = [begin()] * 8 + [write(1, 1, 1), recover([0, 0, 32]), shape(), commit(1), read(8, 1), abort(2), begin()]
        self.assertEqual(ask(*line)[-6:], [[0], [0, 2, 0, 0, 0], [-4], [-4], [-4], [9]])

    def test_what_was_before_is_gone(self):
        line = LINE + [recover(log_with(1, [5, 5])), shape(), whole(0), whole(1), whole(2), whole(7), begin(),
                       span(8, 0, 255)]
        self.assertEqual(ask(*line)[-8:], [[0], [1, 2, 1, 1, 0], [-7], [1, 2, 5, 5], [-7], [-7], [8], [1, 2, 5, 5]])

    def test_all_are_safe(self):
        line = [recover(LOG), sync(), crash(), whole(7), vacuum(8), vacuum(7)]
        self.assertEqual(ask(*line), [[5], [0], [0]] + [last(recover(LOG), whole(7))] + [[-7], [5]])

    def test_safe_may_become_less(self):
        line = filled([(1, 1)]) + filled([(2, 2)], 2) + [sync(), recover([0, 0, 32]), shape()] + filled([(3, 3)], 3)
        self.assertEqual(ask(*line, shape(), crash(), shape())[7:],
                         [[0], [0, 2, 0, 0, 0], [3], [0], [1], [1, 2, 0, 0, 0], [1], [0, 2, 0, 0, 0]])

    def test_commits_go_on(self):
        line = [recover(LOG), begin(1), span(1, 0, 255), write(1, 5, 5), begin(), write(2, 6, 6), commit(2), commit(1),
                begin(), write(3, 6, 7), commit(3), whole(9), changes(7, 9), log(), shape()]
        told = ask(*line)
        store = {0: 0, 1: 1, 2: 2, 6: 7, 8: 8, 9: 9, 200: 0, 255: 4294967295}
        self.assertEqual(told[6:8], [[8], [-5, 2, 8, 6]])
        self.assertEqual(told[10:13], [[9], [8, 16] + pairs_of(store), [1, 3, 6, 1, 7]])
        first = check(LOG[-1], [1, 6, 1, 6])
        self.assertEqual(told[13][2:], LOG + [1, 6, 1, 6, first, 1, 6, 1, 7, check(first, [1, 6, 1, 7])])
        self.assertEqual(told[14], [9, 2, 2, 7, 0])

    def test_one_log_behind_another(self):
        other = log_with(9, [1, 1], [2, 1, 2])
        line = [recover(LOG), recover(other), log(), recover(LOG), log(), recover(other), shape()]
        self.assertEqual(ask(*line), [[5], [1], [len(other)] * 2 + other, [5], [len(LOG)] * 2 + LOG, [1],
                                      [10, 2, 9, 10, 0]])

    def test_behind_a_crash(self):
        line = LINE + [crash(), recover(LOG), whole(7), shape()]
        self.assertEqual(ask(*line)[-4:], [[1], [5], last(*LINE, whole(7)), [7, 2, 2, 7, 0]])

    def test_a_commit_of_256_keys_and_a_store_of_256(self):
        pairs = [x for key in range(256) for x in (key, 7)]
        out = [x for key in range(256) for x in (key, 0, 0)]
        again = [x for key in range(256) for x in (key, 1, key)]
        numbers = log_with(0, pairs, out, again)
        told = ask(recover(numbers), whole(0), whole(1), whole(2), log(), changes(0, 1), changes(1, 2))
        self.assertEqual(told, [[2], [256, 512] + pairs, [0, 0], [256, 512] + [x for k in range(256) for x in (k, k)],
                                [len(numbers)] * 2 + numbers, [256, 768] + out, [256, 768] + again])


class Cut(unittest.TestCase):
    def asked_behind(self, numbers):
        """What is told behind a recover on a line that had another state."""
        line = filled([(3, 3)]) + [sync(), begin(), recover(numbers), shape(), log()]
        return ask(*line)[-3:]

    def wanted(self, count):
        if count < 0:
            before = log_with(0, [], [3, 1, 3])
            return [[-2], [1, 2, 0, 1, 6, 2, 1, 0, 0, 0, 0], [len(before)] * 2 + before]
        kept = LOG[:ENDS[count]]
        return [[count], [2 + count, 2, 2, 2 + count, 0], [len(kept)] * 2 + kept]

    def test_at_every_place(self):
        for place in range(len(LOG) + 1):
            self.assertEqual(self.asked_behind(LOG[:place]), self.wanted(read_whole(place)), place)

    def test_at_every_place_the_stores_are_those_that_were_told(self):
        before = ask(*LINE, *[whole(n) for n in range(9)])[len(LINE):]
        for place in range(ENDS[0], len(LOG) + 1):
            now = 2 + read_whole(place)
            told = ask(recover(LOG[:place]), *[whole(n) for n in range(9)])
            self.assertEqual(told[1:], before[:now + 1] + [[-7]] * (8 - now))

    def test_a_number_changed_at_every_place(self):
        for place, x in enumerate(LOG):
            for new in {x + 1, max(x, 1) - 1, x ^ 128, 0, 1, 2, 255, 256, 4294967295, x + BILLIONS, BILLIONS, LARGEST}:
                if new != x:
                    numbers = LOG[:place] + [new] + LOG[place + 1:]
                    self.assertEqual(self.asked_behind(numbers), self.wanted(read_whole(place)), (place, new))

    def test_a_number_missing_or_doubled_at_every_place(self):
        for place in range(len(LOG)):
            for numbers in (LOG[:place] + LOG[place + 1:], LOG[:place] + [LOG[place]] + LOG[place:]):
                count = read_whole(place)
                # Of two alike, side by side, it is as if the later one were missing or doubled.
                while count < 5 and numbers[:ENDS[count + 1]] == LOG[:ENDS[count + 1]]:
                    count += 1
                self.assertEqual(self.asked_behind(numbers), self.wanted(count), place)

    def test_numbers_behind_it(self):
        for behind in ([0], [1], [1, 1], [1, 5, 1, 5], [1, 5, 1, 5, 5], [257], [LARGEST], [LARGEST] * 9, [0] * 50,
                       LOG, [32], list(range(300))):
            self.assertEqual(self.asked_behind(LOG + behind), self.wanted(5), behind)

    def test_a_right_commit_behind_it_is_read(self):
        part = [1, 5, 1, 5]
        self.assertEqual(ask(recover(LOG + part + [check(LOG[-1], part)]), at(8, 5)), [[6], [1, 1, 5]])

    def test_right_commits_behind_a_wrong_one_are_passed_over(self):
        numbers = LOG[:ENDS[2]] + [1, 5, 1, 5, 0] + LOG[ENDS[2]:]
        self.assertEqual(self.asked_behind(numbers), self.wanted(2))
        numbers = LOG[:ENDS[1]] + LOG[ENDS[2]:]
        self.assertEqual(self.asked_behind(numbers), self.wanted(1))

    def test_commits_in_another_order_are_none(self):
        numbers = LOG[:ENDS[2]] + LOG[ENDS[3]:ENDS[4]] + LOG[ENDS[2]:ENDS[3]] + LOG[ENDS[4]:]
        self.assertEqual(self.asked_behind(numbers), self.wanted(2))


class Beginnings(unittest.TestCase):
    """Lists whose beginning is no log's, though the check is right but where it is the check that's wrong."""

    line = filled([(3, 3)]) + [sync()] + filled([(4, 4)], 2) + [begin(1), write(3, 3, 4), read(3, 4), mark(3)]

    def refused(self, numbers):
        asked = [shape(), log(), whole(2), whole(1)]
        told = ask(*self.line, *asked, recover(numbers), *asked, read(3, 3), commit(3))[len(self.line):]
        self.assertEqual(told[4], [-2], numbers)
        self.assertEqual(told[:4], told[5:9])
        self.assertEqual(told[9:], [[1, 1, 4], [3]])

    def taken(self, numbers):
        self.assertEqual(ask(*self.line, recover(numbers), log())[-2:], [[0], [len(numbers)] * 2 + numbers])

    def test_too_short(self):
        for numbers in ([], [0], [0, 0], [5], [0, 1], [0, 1, 7], [0, 1, 7, 7], [0, 256], [LARGEST] * 2):
            self.refused(numbers)

    def test_base(self):
        self.taken(log_with(4294967295, []))
        self.taken(log_with(4294967295, [0, 1]))
        for base in (BILLIONS, BILLIONS + 1, LARGEST):
            self.refused(log_with(base, []))
            self.refused(log_with(base, [1, 1], [1, 1, 1]))

    def test_how_many_keys(self):
        keys = [x for key in range(256) for x in (key, key)]
        self.taken(log_with(0, keys))
        self.refused(log_with(0, keys + [256, 1]))
        self.refused(log_with(0, keys + [255, 1]))
        self.refused(log_with(0, [0, 1] + keys))
        self.refused(log_with(0, keys)[:1] + [LARGEST] + log_with(0, keys)[2:])

    def test_257_keys_that_all_are_right_but_one(self):
        numbers = log_with(0, [x for key in range(257) for x in (key, 0)])
        self.assertEqual(numbers[1], 257)
        self.refused(numbers)

    def test_keys_that_do_not_rise(self):
        self.taken(log_with(0, [3, 1, 4, 1]))
        self.refused(log_with(0, [4, 1, 3, 1]))
        self.refused(log_with(0, [3, 1, 3, 1]))
        self.refused(log_with(0, [3, 1, 3, 2]))
        self.refused(log_with(0, [1, 1, 5, 1, 9, 1, 8, 1, 20, 1]))
        self.refused(log_with(0, [0, 0, 0, 0]))

    def test_keys_above_255(self):
        self.taken(log_with(0, [255, 1]))
        for key in (256, BILLIONS, BILLIONS + 1, LARGEST):
            self.refused(log_with(0, [key, 1]))
            self.refused(log_with(0, [1, 1, key, 1]))

    def test_values_too_large(self):
        self.taken(log_with(0, [5, 4294967295]))
        for value in (BILLIONS, BILLIONS + 7, LARGEST):
            self.refused(log_with(0, [5, value]))
            self.refused(log_with(0, [4, 1, 5, value]))
            self.refused(log_with(0, [5, value, 6, 1]))

    def test_a_wrong_check(self):
        numbers = log_with(3, [5, 5, 6, 6])
        self.taken(numbers)
        for wrong in (0, 1, numbers[-1] + 1, numbers[-1] - 1, numbers[-1] + BILLIONS, LARGEST):
            self.refused(numbers[:-1] + [wrong])

    def test_a_check_that_does_not_go_over_the_base(self):
        self.refused([5, 1, 7, 7, check(0, [1, 7, 7])])
        self.refused([5, 0, check(0, [5])])
        self.refused([5, 0, check(1, [5, 0])])

    def test_a_log_without_its_beginning(self):
        self.refused(LOG[1:])
        self.refused(LOG[2:])
        self.refused(LOG[ENDS[0]:])
        self.refused([0] + LOG)


class Commits(unittest.TestCase):
    """Commits that are not right though their check is."""

    def read_up_to(self, *wrong):
        """The two commits ahead of the wrong one are read, neither it nor the right one behind it."""
        numbers = log_with(6, [1, 1], [1, 1, 2], [2, 0, 0], wrong, [9, 1, 9])
        kept = log_with(6, [1, 1], [1, 1, 2], [2, 0, 0])
        told = ask(recover(numbers), shape(), log(), whole(8), whole(9))
        self.assertEqual(told, [[2], [8, 2, 6, 8, 0], [len(kept)] * 2 + kept, [1, 2, 1, 2], [-7]], wrong)
        # Not right either where it stands first or last.
        self.assertEqual(ask(recover(log_with(6, [1, 1], wrong)), shape()), [[0], [6, 2, 6, 6, 0]])

    def read_over(self, *right):
        numbers = log_with(6, [1, 1], [1, 1, 2], [2, 0, 0], right, [9, 1, 9])
        self.assertEqual(ask(recover(numbers), shape(), log()),
                         [[4], [10, 2, 6, 10, 0], [len(numbers)] * 2 + numbers])

    def test_0_keys(self):
        self.read_up_to(0)

    def test_257_keys(self):
        keys = [x for key in range(256) for x in (key, 1, 5)]
        self.read_over(256, *keys)
        self.read_up_to(257, *keys, 255, 1, 5)
        self.read_up_to(257, *keys, 256, 1, 5)
        self.read_up_to(257, 0, 1, 5, *keys)

    def test_more_keys_than_there_are(self):
        self.read_up_to(2, 5, 1, 5)
        self.read_up_to(256, 5, 1, 5)
        self.read_up_to(LARGEST, 5, 1, 5)

    def test_keys_that_do_not_rise(self):
        self.read_over(2, 5, 1, 5, 6, 1, 6)
        self.read_up_to(2, 6, 1, 6, 5, 1, 5)
        self.read_up_to(2, 5, 1, 5, 5, 1, 5)
        self.read_up_to(2, 5, 1, 5, 5, 0, 0)
        self.read_up_to(2, 0, 1, 0, 0, 1, 0)
        self.read_up_to(4, 1, 1, 1, 9, 0, 0, 8, 0, 0, 20, 1, 1)

    def test_keys_above_255(self):
        self.read_over(1, 255, 1, 5)
        self.read_over(1, 255, 0, 0)
        for key in (256, BILLIONS, BILLIONS + 5, LARGEST):
            self.read_up_to(1, key, 1, 5)
            self.read_up_to(1, key, 0, 0)
            self.read_up_to(2, 3, 1, 3, key, 1, 5)

    def test_neither_1_nor_0(self):
        for there in (2, 3, BILLIONS, BILLIONS + 1, LARGEST):
            self.read_up_to(1, 5, there, 5)
            self.read_up_to(1, 5, there, 0)
            self.read_up_to(2, 5, there, 5, 6, 1, 6)
            self.read_up_to(2, 4, 1, 4, 5, there, 0)

    def test_0_with_a_value_behind_it(self):
        self.read_over(1, 5, 0, 0)
        for value in (1, 5, 4294967295, BILLIONS, LARGEST):
            self.read_up_to(1, 5, 0, value)
            self.read_up_to(2, 5, 0, value, 6, 0, 0)

    def test_values_too_large(self):
        self.read_over(1, 5, 1, 4294967295)
        self.read_over(1, 5, 1, 0)
        for value in (BILLIONS, BILLIONS + 5, LARGEST):
            self.read_up_to(1, 5, 1, value)
            self.read_up_to(2, 5, 1, value, 6, 1, 6)

    def test_a_wrong_check(self):
        numbers = log_with(6, [1, 1], [1, 1, 2], [2, 1, 2])
        for place, count in ((9, 0), (14, 1)):
            for wrong in (0, numbers[place] + 1, numbers[place] + BILLIONS, numbers[place - 5], LARGEST):
                told = ask(recover(numbers[:place] + [wrong] + numbers[place + 1:]), shape())
                self.assertEqual(told, [[count], [6 + count, 2, 6, 6 + count, 0]])

    def test_a_check_that_goes_on_from_elsewhere(self):
        numbers = log_with(6, [1, 1])
        part = [1, 5, 1, 5]
        self.assertEqual(ask(recover(numbers + part + [check(numbers[-1], part)])), [[1]])
        for wrong in (check(0, part), check(0, numbers + part), check(numbers[-1], numbers[-1:] + part),
                      check(numbers[-1], part[1:]), check(check(0, [6]), part)):
            self.assertEqual(ask(recover(numbers + part + [wrong])), [[0]])


class LargeBases(unittest.TestCase):
    def test_commits_at_vacuum_and_log_behind_the_largest_base(self):
        base = 4294967295
        numbers = log_with(base, [1, 1], [2, 1, 2])
        line = [recover(numbers), shape(), begin(1), read(1, 1)] + filled([(1, 5)], 2) + [write(1, 3, 3), commit(1)]
        line += [whole(base), whole(base + 2), at(base + 1, 2), at(base - 1, 2), at(base + 3, 2),
                 changes(base, base + 2), changes(base + 2, base - 1), vacuum(base + 2), vacuum(base - 1),
                 vacuum(base + 1), shape(), log(), sync(), crash(), vacuum(base + 2), shape()]
        told = ask(*line)
        self.assertEqual(told[:2], [[1], [base + 1, 2, base, base + 1, 0]])
        self.assertEqual(told[6:10], [[base + 2], [0], [-5, 2, base + 2, 1], [1, 2, 1, 1]])
        self.assertEqual(told[10:18], [[2, 4, 1, 5, 2, 2], [1, 1, 2], [-7], [-7], [2, 6, 1, 1, 5, 2, 1, 2], [-7],
                                       [-7], [-7]])
        behind = log_with(base + 1, [1, 1, 2, 2], [1, 1, 5])
        self.assertEqual(told[18:], [[1], [base + 2, 2, base + 1, base + 1, 0], [len(behind)] * 2 + behind, [1], [0],
                                     [1], [base + 2, 2, base + 2, base + 2, 0]])

    def test_a_log_whose_base_has_become_too_large_is_told_but_not_read(self):
        # So the words say: a base may grow by vacuum without a bound, but is read only below 2^32.
        line = [recover(log_with(4294967295, [], [5, 1, 5])), vacuum(BILLIONS)]
        numbers = told_log(*line)
        self.assertEqual(numbers, log_with(BILLIONS, [5, 5]))
        self.assertEqual(ask(*line, recover(numbers), shape())[2:], [[-2], [BILLIONS, 2, BILLIONS, BILLIONS, 0]])

    def test_numbers_just_below(self):
        for base in (0, 1, 255, 256, 65536, 4294967294, 4294967295):
            numbers = log_with(base, [7, 7], [7, 0, 0], [8, 1, 8])
            told = ask(recover(numbers), at(base, 7), at(base + 1, 7), at(base + 2, 8), at(base + 3, 8), log(), shape())
            self.assertEqual(told, [[2], [1, 1, 7], [0], [1, 1, 8], [-7], [len(numbers)] * 2 + numbers,
                                    [base + 2, 2, base, base + 2, 0]])


class Long(unittest.TestCase):
    def long_log(self, most, keys):
        commits = (most - 3) // (2 + 3 * keys)
        return commits, log_with(0, [], *[[x for key in range(keys) for x in (key, 1, number)]
                                          for number in range(commits)])

    def test_a_line_of_16000_numbers(self):
        for keys in (1, 7, 256):
            commits, numbers = self.long_log(15600, keys)
            line = recover(numbers)
            told = [1, commits]
            for number in range(66):
                seen = min(number * 50, commits)
                line += log() + whole(seen) + changes(0, seen)
                store = [x for key in range(keys) for x in (key, seen - 1)] if seen else []
                writes = [x for key in range(keys) for x in (key, 1, seen - 1)] if seen else []
                told += [2 + len(numbers), len(numbers), len(numbers)] + numbers
                told += [2 + len(store), len(store) // 2, len(store)] + store
                told += [2 + len(writes), len(writes) // 3, len(writes)] + writes
            line += shape()
            told += [5, commits, 2, 0, commits, 0]
            self.assertLessEqual(len(line), 16000)
            self.assertEqual(answers(line), told)

    def test_the_longest_list(self):
        commits, numbers = self.long_log(15990, 1)
        self.assertEqual(commits, 3197)
        numbers += [0] * (15990 - len(numbers))
        line = recover(numbers) + shape() + at(3197, 0) + log()
        self.assertLessEqual(len(line), 16000)
        told = answers(line)
        self.assertEqual(told[:12], [1, 3197, 5, 3197, 2, 0, 3197, 0, 3, 1, 1, 3196])
        self.assertEqual(told[12:15], [15990, 15988, 15988])
        self.assertEqual(told[15:], numbers[:15988])

    def test_a_long_list_that_is_no_log(self):
        for x in (0, 1, 255, LARGEST):
            self.assertEqual(answers(recover([x] * 15990) + shape()), [1, -2, 5, 0, 2, 0, 0, 0])

    def test_lists_behind_lists(self):
        line = [recover(LOG[:place]) for place in range(len(LOG) + 1)]
        self.assertEqual(ask(*line), [[-2]] * ENDS[0] + [[read_whole(place)] for place in range(ENDS[0], len(LOG) + 1)])
        self.assertLessEqual(len(flat(line)), 16000)


if __name__ == "__main__":
    unittest.main()
