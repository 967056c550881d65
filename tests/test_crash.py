"""T5: sync and crash: just the commits above safe are lost, whole, from the end."""

import unittest

from tests.lines import LARGEST, abort, ask, at, back, begin, changes, commit, crash, delete, filled, last, log, log_with
from tests.lines import mark, read, recover, shape, span, sync, told_log, vacuum, whole, write


class Sync(unittest.TestCase):
    def test_answers_how_many_become_safe(self):
        line = [sync()] + filled([(1, 1)]) + filled([(1, 2)], 2) + [sync(), sync()] + filled([(1, 3)], 3) + [sync()]
        told = ask(*line)
        self.assertEqual([told[i] for i in (0, 7, 8, 12)], [[0], [2], [0], [1]])

    def test_safe_is_now(self):
        line = filled([(1, 1)]) + [shape(), sync(), shape()]
        self.assertEqual(ask(*line)[-3:], [[1, 2, 0, 0, 0], [1], [1, 2, 0, 1, 0]])

    def test_open_ones_stay_open_and_their_writes_are_not_safe(self):
        line = [begin(), write(1, 1, 1), sync(), read(1, 1), commit(1), crash()]
        self.assertEqual(ask(*line)[-4:], [[0], [1, 1, 1], [1], [1]])

    def test_changes_nothing_else(self):
        line = filled([(1, 1)]) + [log(), whole(1), whole(0), sync(), log(), whole(1), whole(0)]
        told = ask(*line)
        self.assertEqual(told[-7:-4], told[-3:])


class Crash(unittest.TestCase):
    def test_on_a_new_state(self):
        self.assertEqual(ask(crash(), shape(), begin(), crash(), shape(), begin()),
                         [[0], [0, 2, 0, 0, 0], [1], [0], [0, 2, 0, 0, 0], [2]])

    def test_nothing_synced_all_is_lost(self):
        line = filled([(1, 1)]) + filled([(2, 2)], 2) + [crash(), shape(), whole(0), whole(1), at(0, 1), crash()]
        self.assertEqual(ask(*line)[-6:], [[2], [0, 2, 0, 0, 0], [0, 0], [-7], [0], [0]])

    def test_all_synced_nothing_is_lost(self):
        line = filled([(1, 1)]) + filled([(2, 2)], 2) + [sync(), log(), whole(2), crash(), log(), whole(2), shape()]
        told = ask(*line)
        self.assertEqual(told[-4], [0])
        self.assertEqual(told[-6:-4], told[-3:-1])
        self.assertEqual(told[-1], [2, 2, 0, 2, 0])

    def test_just_those_above_safe_wherever_it_was_synced(self):
        for safe in range(7):
            line = []
            for number in range(1, 7):
                line += [sync()] if number == safe + 1 else []
                line += [begin(), write(number, number, 1), write(number, 50, number), delete(number, number - 1),
                         commit(number)]
            line += [sync()] if safe == 6 else []
            told = ask(*line, *[whole(n) for n in range(8)], crash(), shape(), *[whole(n) for n in range(8)])
            before, (lost, shaped), behind = told[-18:-10], told[-10:-8], told[-8:]
            self.assertEqual(lost, [6 - safe])
            self.assertEqual(shaped, [safe, 2, 0, safe, 0])
            self.assertEqual(behind, before[:safe + 1] + [[-7]] * (7 - safe))

    def test_a_commit_is_lost_whole(self):
        line = filled([(1, 1), (2, 2)]) + [sync(), begin(), write(2, 1, 9), delete(2, 2), write(2, 3, 3), commit(2)]
        self.assertEqual(ask(*line, crash(), whole(1), begin(), span(3, 0, 255))[-4:],
                         [[1], [2, 4, 1, 1, 2, 2], [3], [2, 4, 1, 1, 2, 2]])

    def test_no_transaction_is_open(self):
        line = filled([(1, 1)]) + [sync(), begin(0), begin(1), mark(2), write(2, 1, 2), crash(), shape()]
        line += [read(2, 1), span(3, 0, 0), write(2, 1, 1), delete(3, 1), mark(2), back(2, 0), commit(2), abort(3)]
        self.assertEqual(ask(*line)[-10:], [[0], [1, 2, 0, 1, 0]] + [[-4]] * 8)

    def test_there_is_room_for_8_again_and_numbers_go_on(self):
        line = [begin()] * 8 + [begin(), crash()] + [begin()] * 9
        self.assertEqual(ask(*line)[8:], [[-6], [0]] + [[n] for n in range(9, 17)] + [[-6]])

    def test_numbers_of_ended_ones_are_not_used_again(self):
        line = [begin(), abort(1), begin(), commit(2), crash(), begin(), crash(), begin()]
        self.assertEqual(ask(*line)[-4:], [[0], [3], [0], [4]])

    def test_commits_numbers_go_on_from_safe(self):
        line = filled([(1, 1)]) + [sync()] + filled([(2, 2)], 2) + filled([(3, 3)], 3) + [crash()]
        line += filled([(4, 4)], 4) + [whole(1), whole(2), whole(3)]
        self.assertEqual(ask(*line)[-4:], [[2], [1, 2, 1, 1], [2, 4, 1, 1, 4, 4], [-7]])

    def test_a_lost_commit_clashes_with_none(self):
        line = filled([(1, 1)]) + [sync()] + filled([(7, 7)], 2) + [crash(), begin(1), read(3, 7), write(3, 7, 8)]
        line += filled([(9, 9)], 4) + [commit(3), at(3, 7), at(2, 7)]
        self.assertEqual(ask(*line)[-3:], [[3], [1, 1, 8], [0]])

    def test_the_new_commit_of_a_lost_ones_number_clashes(self):
        line = filled([(1, 1)]) + [sync()] + filled([(7, 7)], 2) + [crash(), begin(), write(3, 5, 8)]
        line += filled([(5, 9)], 4) + [commit(3)]
        self.assertEqual(last(*line), [-5, 2, 2, 5])

    def test_an_open_ones_writes_are_gone(self):
        line = [begin(), write(1, 1, 1), crash(), begin(), span(2, 0, 255), commit(2), shape()]
        self.assertEqual(ask(*line)[-3:], [[0, 0], [0], [0, 2, 0, 0, 0]])

    def test_the_log_is_that_of_the_safe_ones(self):
        line = filled([(1, 1)]) + filled([(2, 2)], 2) + [sync()]
        self.assertEqual(told_log(*line), told_log(*line, *filled([(2, 9), (3, 3)], 3), crash()))

    def test_sync_behind_it(self):
        line = filled([(1, 1)]) + [sync()] + filled([(2, 2)], 2) + [crash(), sync()] + filled([(3, 3)], 3)
        line += [sync(), crash(), whole(2)]
        self.assertEqual([ask(*line)[i] for i in (7, 8, 12, 13, 14)], [[1], [0], [1], [0], [2, 4, 1, 1, 3, 3]])

    def test_vacuum_behind_it(self):
        line = filled([(1, 1)]) + filled([(2, 2)], 2) + [sync(), begin()] + filled([(3, 3)], 4)
        line += [vacuum(3), crash(), vacuum(3), vacuum(LARGEST), vacuum(2), shape(), whole(2), whole(1), crash()]
        self.assertEqual(ask(*line)[-9:], [[-7], [1], [-7], [-7], [2], [2, 2, 2, 2, 0], [2, 4, 1, 1, 2, 2], [-7], [0]])

    def test_one_that_saw_a_lower_commit_does_not_hold_back_a_vacuum_behind_it(self):
        line = [begin()] + filled([(1, 1)], 2) + [sync(), vacuum(1), crash(), vacuum(1)]
        self.assertEqual(ask(*line)[-3:], [[-3], [0], [1]])

    def test_twice(self):
        line = filled([(1, 1)]) + [sync()] + filled([(1, 2)], 2) + [crash(), crash(), whole(1), shape()]
        self.assertEqual(ask(*line)[-4:], [[1], [0], [1, 2, 1, 1], [1, 2, 0, 1, 0]])

    def test_behind_a_recover_nothing_of_it_is_lost(self):
        numbers = log_with(7, [1, 1], [1, 1, 2], [3, 1, 3])
        line = [recover(numbers), begin(), write(1, 1, 5), commit(1), shape(), crash(), shape(), log()]
        self.assertEqual(ask(*line)[3:], [[10], [10, 2, 7, 9, 0], [1], [9, 2, 7, 9, 0], [len(numbers)] * 2 + numbers])

    def test_changes_across_what_was_lost(self):
        line = filled([(1, 1)]) + [sync()] + filled([(1, 2), (5, 5)], 2) + [changes(1, 2), crash(), changes(1, 2),
                                                                           changes(0, 1)]
        self.assertEqual(ask(*line)[-4:], [[2, 6, 1, 1, 2, 5, 1, 5], [1], [-7], [1, 3, 1, 1, 1]])


if __name__ == "__main__":
    unittest.main()
