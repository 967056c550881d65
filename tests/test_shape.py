"""shape: now, base and safe, and of each open transaction, as they began, its six numbers."""

import unittest

from tests.lines import abort, ask, at, back, begin, changes, commit, crash, delete, filled, last, log, mark, read
from tests.lines import shape, span, sync, vacuum, whole, write


class Shape(unittest.TestCase):
    def told(self, *calls):
        return last(*calls, shape())

    def test_new(self):
        self.assertEqual(self.told(), [0, 2, 0, 0, 0])

    def test_commits_base_and_safe(self):
        line = [call for number in range(1, 5) for call in filled([(number, 1)], number)]
        self.assertEqual(self.told(*line), [4, 2, 0, 0, 0])
        line += [sync()] + filled([(9, 9)], 5) + [vacuum(2)]
        self.assertEqual(self.told(*line), [5, 2, 2, 4, 0])

    def test_several_as_they_began(self):
        line = [begin(1)] + filled([(1, 1)], 2) + [begin(0), begin(1)] + filled([(1, 1)], 5) + [begin(0)]
        self.assertEqual(self.told(*line), [2, 2, 0, 0, 24, 1, 0, 1, 0, 0, 0, 3, 1, 0, 0, 0, 0, 4, 1, 1, 0, 0, 0,
                                            6, 2, 0, 0, 0, 0])

    def test_some_ended_in_between(self):
        line = [begin(0), begin(1), begin(0), begin(1), begin(0), abort(2), commit(4), begin(1), abort(1), begin(0)]
        self.assertEqual(self.told(*line), [0, 2, 0, 0, 24, 3, 0, 0, 0, 0, 0, 5, 0, 0, 0, 0, 0, 6, 0, 1, 0, 0, 0,
                                            7, 0, 0, 0, 0, 0])

    def test_one_refused_for_a_clash_is_not_there(self):
        line = [begin(), begin(), write(1, 1, 1), write(2, 1, 1), commit(1), commit(2)]
        self.assertEqual(self.told(*line), [1, 2, 0, 0, 0])

    def test_8_of_them(self):
        self.assertEqual(self.told(*[begin(1)] * 9), [0, 2, 0, 0, 48] + [x for n in range(1, 9)
                                                                       for x in (n, 0, 1, 0, 0, 0)])

    def test_keys_written_not_writes(self):
        line = [begin(), write(1, 1, 1), write(1, 1, 2), write(1, 2, 2), delete(1, 2), delete(1, 3), delete(1, 3)]
        self.assertEqual(self.told(*line), [0, 2, 0, 0, 6, 1, 0, 0, 3, 0, 0])

    def test_how_often_it_has_read(self):
        line = [begin(1), write(1, 1, 1), read(1, 1), read(1, 2), read(1, 2), span(1, 1, 1), span(1, 0, 255),
                read(1, 256), span(1, 2, 1)]
        self.assertEqual(self.told(*line), [0, 2, 0, 0, 6, 1, 0, 1, 1, 4, 0])

    def test_64_reads_and_16_marks(self):
        line = [begin(1)] + [read(1, 2)] * 66 + [mark(1)] * 18
        self.assertEqual(self.told(*line), [0, 2, 0, 0, 6, 1, 0, 1, 0, 64, 16])

    def test_marks_and_back(self):
        line = [begin(), mark(1), write(1, 1, 1), read(1, 2), mark(1), write(1, 2, 2), mark(1), read(1, 3)]
        self.assertEqual(self.told(*line), [0, 2, 0, 0, 6, 1, 0, 0, 2, 2, 3])
        self.assertEqual(self.told(*line, back(1, 1)), [0, 2, 0, 0, 6, 1, 0, 0, 1, 2, 2])
        self.assertEqual(self.told(*line, back(1, 0)), [0, 2, 0, 0, 6, 1, 0, 0, 0, 2, 1])
        self.assertEqual(self.told(*line, back(1, 3)), [0, 2, 0, 0, 6, 1, 0, 0, 2, 2, 3])

    def test_each_has_its_own(self):
        line = [begin(0), begin(1), write(1, 1, 1), write(2, 1, 1), write(2, 2, 1), read(1, 7), mark(2), mark(2),
                span(1, 3, 4)]
        self.assertEqual(self.told(*line), [0, 2, 0, 0, 12, 1, 0, 0, 1, 2, 0, 2, 0, 1, 2, 0, 2])

    def test_the_past_and_the_log_count_for_none(self):
        line = [begin(1), at(0, 1), whole(0), changes(0, 0), log(), shape()]
        self.assertEqual(self.told(*line), [0, 2, 0, 0, 6, 1, 0, 1, 0, 0, 0])

    def test_behind_a_crash(self):
        line = filled([(1, 1)]) + [sync()] + filled([(1, 1)], 2) + [begin(1), write(3, 1, 1), crash(), begin(0)]
        self.assertEqual(self.told(*line), [1, 2, 0, 1, 6, 4, 1, 0, 0, 0, 0])

    def test_what_it_tells_of_those_that_go_on_stays_while_others_commit(self):
        line = [begin(1), write(1, 7, 7), read(1, 2), mark(1)]
        self.assertEqual(self.told(*line)[5:], self.told(*line, *filled([(7, 1), (2, 2)], 2), sync())[5:])

    def test_changes_nothing(self):
        line = [begin(1), shape(), write(1, 7, 7), shape(), read(1, 2), shape(), mark(1), shape(), commit(1), shape()]
        self.assertEqual(ask(*line)[::2], ask(*[call for call in line if call != shape()]))


if __name__ == "__main__":
    unittest.main()
