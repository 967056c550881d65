"""vacuum: the base, its store, what is told behind it, and the transactions that are open."""

import unittest

from tests.lines import LARGEST, abort, ask, at, begin, changes, check, commit, crash, delete, filled, last, log
from tests.lines import read, recover, shape, span, sync, told_log, vacuum, whole, write


def commits(count, first=1):
    """Transactions first, first + 1, ..: each writes its number at the keys of its number and 100."""
    line = []
    for number in range(first, first + count):
        line += filled([(number, number), (100, number)], number)
    return line


def store(n):
    pairs = [x for key in range(1, n + 1) for x in (key, key)]
    return pairs + [100, n] if n else []


class Base(unittest.TestCase):
    def test_answers_how_many_are_told_no_more(self):
        line = commits(6) + [sync(), vacuum(0), vacuum(2), vacuum(2), vacuum(3), vacuum(6), vacuum(6)]
        self.assertEqual(ask(*line)[-6:], [[0], [2], [0], [1], [3], [0]])

    def test_on_a_new_state(self):
        self.assertEqual(ask(vacuum(0), vacuum(1), vacuum(LARGEST), shape()), [[0], [-7], [-7], [0, 2, 0, 0, 0]])

    def test_what_is_told_from_every_base(self):
        for base in range(7):
            line = commits(6) + [sync(), vacuum(base)]
            told = ask(*line, *[whole(n) for n in range(8)])[len(line):]
            wanted = [[len(store(n)) // 2, len(store(n))] + store(n) if base <= n <= 6 else [-7] for n in range(8)]
            self.assertEqual(told, wanted)
            told = ask(*line, *[at(n, 100) for n in range(8)])[len(line):]
            self.assertEqual(told, [[-7] if n < base or n > 6 else [1, 1, n] if n else [0] for n in range(8)])
            self.assertEqual(last(*line, shape()), [6, 2, base, 6, 0])

    def test_in_two_steps_as_in_one(self):
        line = commits(6) + [sync()]
        asked = [whole(n) for n in range(8)] + [changes(4, 6), changes(3, 6), log(), shape()]
        self.assertEqual(ask(*line, vacuum(1), vacuum(4), *asked)[-12:], ask(*line, vacuum(4), *asked)[-12:])

    def test_the_log_begins_with_the_base_and_its_store(self):
        line = commits(3) + [sync(), vacuum(2)]
        beginning = [2, 3, 1, 1, 2, 2, 100, 2]
        first = check(0, beginning)
        part = [2, 3, 1, 3, 100, 1, 3]
        self.assertEqual(told_log(*line), beginning + [first] + part + [check(first, part)])

    def test_keys_taken_out_ahead_of_the_base(self):
        line = filled([(1, 1), (2, 2)]) + [begin(), delete(2, 1), delete(2, 9), commit(2), sync(), vacuum(2), whole(2)]
        self.assertEqual(last(*line), [1, 2, 2, 2])
        self.assertEqual(told_log(*line)[:4], [2, 1, 2, 2])

    def test_commits_go_on(self):
        line = commits(3) + [sync(), vacuum(3)] + commits(2, 4) + [whole(5), whole(4), whole(3), changes(3, 5), shape()]
        told = ask(*line)
        self.assertEqual(told[-6:], [[5], [6, 12] + store(5), [5, 10] + store(4), [4, 8] + store(3),
                                     [3, 9, 4, 1, 4, 5, 1, 5, 100, 1, 5], [5, 2, 3, 3, 0]])

    def test_what_begins_behind_it_sees_now(self):
        line = commits(3) + [sync(), vacuum(2), begin(), span(4, 0, 255), shape()]
        self.assertEqual(ask(*line)[-2:], [[4, 8] + store(3), [3, 2, 2, 3, 6, 4, 3, 0, 0, 1, 0]])


class Refused(unittest.TestCase):
    def test_above_safe(self):
        line = commits(3)
        self.assertEqual(ask(*line, vacuum(1), vacuum(0), sync(), vacuum(4), vacuum(LARGEST), vacuum(3))[len(line):],
                         [[-7], [0], [3], [-7], [-7], [3]])

    def test_safe_itself_and_the_one_above(self):
        line = commits(2) + [sync()] + commits(2, 3)
        self.assertEqual(ask(*line, vacuum(3), vacuum(4), vacuum(2), shape())[-4:], [[-7], [-7], [2], [4, 2, 2, 2, 0]])

    def test_below_the_base(self):
        line = commits(3) + [sync(), vacuum(2), vacuum(1), vacuum(0), vacuum(2), vacuum(3), vacuum(2)]
        self.assertEqual(ask(*line)[-5:], [[-7], [-7], [0], [1], [-7]])

    def test_one_that_sees_a_commit_below(self):
        line = commits(2) + [begin()] + commits(2, 4) + [sync()]
        self.assertEqual(ask(*line, vacuum(3), vacuum(4), vacuum(2), vacuum(3), abort(3), vacuum(3))[-6:],
                         [[-3], [-3], [2], [-3], [0], [1]])

    def test_one_that_sees_just_that(self):
        line = commits(2) + [begin(), sync()]
        self.assertEqual(ask(*line, vacuum(2), vacuum(1), shape())[-3:], [[2], [-7], [2, 2, 2, 2, 6, 3, 2, 0, 0, 0, 0]])

    def test_one_that_sees_a_commit_above(self):
        line = commits(2) + [begin(), sync()]
        self.assertEqual(ask(*line, vacuum(1), whole(0), whole(1))[-3:], [[1], [-7], [2, 4] + store(1)])

    def test_any_of_several(self):
        line = [begin()] + commits(1, 2) + [begin()] + commits(1, 4) + [begin(), sync()]
        told = ask(*line, vacuum(1), abort(1), vacuum(2), vacuum(1), commit(3), vacuum(2))[-6:]
        self.assertEqual(told, [[-3], [0], [-3], [1], [0], [1]])

    def test_the_newest_alone_does_not_count(self):
        line = [begin()] + commits(1, 2) + [sync(), begin(), vacuum(1)]
        self.assertEqual(last(*line), [-3])
        line = commits(1) + [sync(), begin(), begin(1), vacuum(1)]
        self.assertEqual(last(*line), [1])

    def test_either_way_and_having_done_nothing(self):
        for way in (0, 1):
            line = [begin(way)] + commits(1, 2) + [sync(), vacuum(1), vacuum(0)]
            self.assertEqual(ask(*line)[-2:], [[-3], [0]])

    def test_one_ended_by_a_clash_counts_no_more(self):
        line = [begin(), write(1, 100, 0)] + commits(1, 2) + [sync(), vacuum(1), commit(1), vacuum(1)]
        self.assertEqual(ask(*line)[-3:], [[-3], [-5, 2, 1, 100], [1]])

    def test_number_before_still_seen(self):
        line = [begin()] + commits(2, 2) + [sync()] + commits(1, 4)
        self.assertEqual(ask(*line, vacuum(3), vacuum(4), vacuum(LARGEST), vacuum(2))[-4:], [[-7], [-7], [-7], [-3]])

    def test_nothing_is_changed(self):
        line = commits(1) + [sync(), vacuum(1), begin()] + commits(2, 3) + [sync()] + commits(1, 5)
        asked = [shape(), log(), whole(1), whole(2), whole(4), span(2, 0, 255)]
        for n, refused in ((0, -7), (2, -3), (3, -3), (4, -7), (5, -7), (LARGEST, -7)):
            told = ask(*line, *asked[:5], vacuum(n), *asked)[len(line):]
            self.assertEqual(told[5], [refused])
            self.assertEqual(told[:5], told[6:11])
            self.assertEqual(told[11], [2, 4] + store(1))


class OpenOnes(unittest.TestCase):
    """Transaction 3 sees commit 2; commits 3 and 4 are made behind it; then the base is 2."""

    line = commits(2) + [begin(1)] + commits(2, 4) + [sync(), vacuum(2)]

    def told(self, *calls):
        return ask(*self.line, *calls)[len(self.line):]

    def test_the_vacuum_is_done(self):
        self.assertEqual(ask(*self.line)[-1], [2])

    def test_goes_on_seeing_what_it_saw(self):
        self.assertEqual(self.told(span(3, 0, 255), read(3, 100), read(3, 4), read(3, 1)),
                         [[3, 6] + store(2), [1, 1, 2], [0], [1, 1, 1]])

    def test_clashes_with_the_commits_behind_the_one_it_sees(self):
        self.assertEqual(self.told(write(3, 4, 9), commit(3))[-1], [-5, 2, 3, 4])
        self.assertEqual(self.told(write(3, 5, 9), commit(3))[-1], [-5, 2, 4, 5])
        self.assertEqual(self.told(write(3, 100, 9), commit(3))[-1], [-5, 2, 3, 100])
        self.assertEqual(self.told(read(3, 5), write(3, 9, 9), commit(3))[-1], [-5, 2, 4, 5])

    def test_does_not_clash_with_those_it_sees(self):
        self.assertEqual(self.told(read(3, 1), write(3, 1, 9), write(3, 2, 9), commit(3), at(5, 1), at(4, 1)),
                         [[1, 1, 1], [0], [0], [5], [1, 1, 9], [1, 1, 1]])

    def test_commits_nothing_if_it_wrote_nothing(self):
        self.assertEqual(self.told(span(3, 0, 255), commit(3), vacuum(4))[1:], [[0], [2]])

    def test_one_that_sees_a_later_one_than_the_base(self):
        line = commits(3) + [begin(1), sync(), vacuum(1)] + commits(1, 5)
        self.assertEqual(ask(*line, span(4, 0, 255), write(4, 3, 0), commit(4))[-3:],
                         [[4, 8] + store(3), [0], [-5, 2, 4, 5]])
        line = commits(3) + [begin(1), sync(), vacuum(1)] + commits(1, 5)
        self.assertEqual(ask(*line, write(4, 3, 0), commit(4))[-1], [5])

    def test_vacuum_up_to_the_one_it_sees_then_more_commits(self):
        line = commits(3) + [begin(), sync(), vacuum(3)] + commits(2, 5)
        self.assertEqual(ask(*line, read(4, 100), write(4, 6, 0), commit(4))[-3:], [[1, 1, 3], [0], [-5, 2, 5, 6]])


class BehindIt(unittest.TestCase):
    def test_crash(self):
        line = commits(2) + [sync(), vacuum(1)] + commits(2, 3) + [crash(), shape(), whole(2), whole(3), whole(1)]
        self.assertEqual(ask(*line)[-5:], [[2], [2, 2, 1, 2, 0], [3, 6] + store(2), [-7], [2, 4] + store(1)])

    def test_crash_back_to_the_base(self):
        line = commits(2) + [sync(), vacuum(2)] + commits(1, 3) + [crash(), shape(), whole(2)] + commits(1, 4)
        self.assertEqual(ask(*line)[-7:], [[1], [2, 2, 2, 2, 0], [3, 6] + store(2), [4], [0], [0], [3]])

    def test_recover_of_its_log(self):
        line = commits(4) + [sync(), vacuum(2)]
        numbers = told_log(*line)
        self.assertEqual(ask(recover(numbers), shape(), whole(1), whole(2), whole(3), whole(4), vacuum(1), vacuum(4)),
                         [[2], [4, 2, 2, 4, 0], [-7], [3, 6] + store(2), [4, 8] + store(3), [5, 10] + store(4),
                          [-7], [2]])


if __name__ == "__main__":
    unittest.main()
