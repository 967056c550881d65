"""T1: a transaction sees the store as it was when it began, its own writes over it."""

import unittest

from tests.lines import abort, ask, begin, commit, delete, filled, last, read, span, write


class Sees(unittest.TestCase):
    def test_empty_store(self):
        self.assertEqual(ask(begin(), read(1, 7), span(1, 0, 255)), [[1], [0], [0, 0]])

    def test_own_write_is_seen(self):
        self.assertEqual(ask(begin(), write(1, 7, 70), read(1, 7), span(1, 0, 255)),
                         [[1], [0], [1, 1, 70], [1, 2, 7, 70]])

    def test_own_write_over_own_write(self):
        self.assertEqual(last(begin(), write(1, 7, 70), write(1, 7, 71), read(1, 7)), [1, 1, 71])

    def test_value_zero_is_there(self):
        self.assertEqual(ask(begin(), write(1, 0, 0), read(1, 0), span(1, 0, 0))[2:],
                         [[1, 1, 0], [1, 2, 0, 0]])

    def test_value_zero_is_there_once_committed(self):
        line = filled([(0, 0)]) + [begin(), read(2, 0), span(2, 0, 255)]
        self.assertEqual(ask(*line)[-2:], [[1, 1, 0], [1, 2, 0, 0]])

    def test_own_delete_is_seen(self):
        line = filled([(3, 30), (4, 40)]) + [begin(), delete(2, 3), read(2, 3), span(2, 0, 255)]
        self.assertEqual(ask(*line)[-3:], [[0], [0], [1, 2, 4, 40]])

    def test_written_after_delete_and_deleted_after_write(self):
        line = filled([(3, 30)]) + [begin(), delete(2, 3), write(2, 3, 31), read(2, 3),
                                    write(2, 5, 50), delete(2, 5), read(2, 5), span(2, 0, 9)]
        self.assertEqual(ask(*line)[-5:], [[1, 1, 31], [0], [0], [0], [1, 2, 3, 31]])

    def test_delete_of_what_is_not_there(self):
        self.assertEqual(ask(begin(), delete(1, 9), read(1, 9), span(1, 0, 255)), [[1], [0], [0], [0, 0]])

    def test_others_writes_are_not_seen_before_they_commit(self):
        line = [begin(), begin(), write(1, 5, 50), read(2, 5), span(2, 0, 255), begin(), read(3, 5)]
        self.assertEqual(ask(*line)[3:], [[0], [0, 0], [3], [0]])

    def test_others_commit_is_not_seen_by_one_that_began_before(self):
        line = filled([(1, 10), (2, 20)]) + [
            begin(), begin(), write(3, 1, 11), delete(3, 2), write(3, 4, 40), commit(3),
            read(2, 1), read(2, 2), read(2, 4), span(2, 0, 255)]
        self.assertEqual(ask(*line)[-4:], [[1, 1, 10], [1, 1, 20], [0], [2, 4, 1, 10, 2, 20]])

    def test_the_same_after_several_commits(self):
        line = filled([(1, 10)]) + [begin()]
        for number in range(3, 8):
            line += [begin(), write(number, 1, number), commit(number), read(2, 1)]
        told = ask(*line)
        self.assertEqual([told[i] for i in range(7, len(told), 4)], [[1, 1, 10]] * 5)

    def test_each_sees_the_commit_it_began_at(self):
        line = []
        for number in range(1, 6):
            line += [begin(), begin(), write(2 * number, 9, number), commit(2 * number)]
        line += [read(2 * number - 1, 9) for number in range(1, 6)]
        self.assertEqual(ask(*line)[-5:], [[0]] + [[1, 1, value] for value in range(1, 5)])

    def test_commit_is_seen_by_one_that_begins_behind_it(self):
        line = filled([(1, 10), (2, 20)]) + [begin(), span(2, 0, 255)]
        self.assertEqual(last(*line), [2, 4, 1, 10, 2, 20])

    def test_own_writes_over_what_it_sees_while_others_commit(self):
        line = filled([(1, 10), (2, 20)]) + [
            begin(), write(2, 2, 22), delete(2, 1), begin(), write(3, 1, 11), write(3, 3, 33), commit(3),
            span(2, 0, 255), read(2, 1), read(2, 2), read(2, 3)]
        self.assertEqual(ask(*line)[-4:], [[1, 2, 2, 22], [0], [1, 1, 22], [0]])

    def test_own_writes_of_one_are_not_those_of_another(self):
        line = [begin(), begin(), write(1, 5, 51), write(2, 5, 52), read(1, 5), read(2, 5)]
        self.assertEqual(ask(*line)[-2:], [[1, 1, 51], [1, 1, 52]])

    def test_aborted_writes_are_seen_by_nobody(self):
        line = [begin(), begin(), write(1, 5, 50), abort(1), read(2, 5), begin(), read(3, 5)]
        self.assertEqual(ask(*line)[3:], [[0], [0], [3], [0]])


class Ranges(unittest.TestCase):
    def setUp(self):
        self.line = filled([(255, 4), (0, 1), (128, 3), (5, 2)]) + [begin()]

    def told(self, lo, hi):
        return last(*self.line, span(2, lo, hi))

    def test_whole_rising(self):
        self.assertEqual(self.told(0, 255), [4, 8, 0, 1, 5, 2, 128, 3, 255, 4])

    def test_rising_with_own_writes_between(self):
        line = self.line + [write(2, 200, 6), write(2, 3, 7), delete(2, 5), span(2, 0, 255)]
        self.assertEqual(last(*line), [5, 10, 0, 1, 3, 7, 128, 3, 200, 6, 255, 4])

    def test_both_ends_are_within(self):
        self.assertEqual(self.told(5, 128), [2, 4, 5, 2, 128, 3])
        self.assertEqual(self.told(6, 127), [0, 0])
        self.assertEqual(self.told(4, 129), [2, 4, 5, 2, 128, 3])

    def test_one_key(self):
        self.assertEqual(self.told(0, 0), [1, 2, 0, 1])
        self.assertEqual(self.told(255, 255), [1, 2, 255, 4])
        self.assertEqual(self.told(7, 7), [0, 0])

    def test_many_keys(self):
        line = [begin()] + [write(1, 2 * k, k) for k in range(99)] + [span(1, 0, 255)]
        pairs = [x for k in range(99) for x in (2 * k, k)]
        self.assertEqual(last(*line), [99, 198] + pairs)


if __name__ == "__main__":
    unittest.main()
