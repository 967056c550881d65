"""Marks: their numbers, back to them, later ones gone, what has been read not."""

import unittest

from tests.lines import LARGEST, ask, back, begin, commit, delete, filled, last, mark, read, span, write


class Marks(unittest.TestCase):
    def test_numbered_from_0(self):
        self.assertEqual(ask(begin(), mark(1), mark(1), write(1, 1, 1), mark(1))[1:], [[0], [1], [0], [2]])

    def test_each_transaction_has_its_own(self):
        self.assertEqual(ask(begin(), begin(), mark(1), mark(1), mark(2), back(2, 1))[2:],
                         [[0], [1], [0], [-7]])

    def test_back_answers_how_many_keys_are_written_then(self):
        line = [begin(), mark(1), write(1, 1, 1), write(1, 2, 2), write(1, 2, 3), delete(1, 9), mark(1),
                write(1, 4, 4), back(1, 1), back(1, 0)]
        self.assertEqual(ask(*line)[-2:], [[3], [0]])

    def test_writes_are_as_they_were(self):
        line = filled([(1, 10), (2, 20)]) + [
            begin(), write(2, 1, 11), delete(2, 2), mark(2), write(2, 1, 12), write(2, 2, 22), write(2, 3, 33),
            delete(2, 1), back(2, 0), span(2, 0, 255), read(2, 1), read(2, 2), read(2, 3)]
        self.assertEqual(ask(*line)[-5:], [[2], [1, 2, 1, 11], [1, 1, 11], [0], [0]])

    def test_to_the_same_one_twice(self):
        line = [begin(), write(1, 1, 1), mark(1), write(1, 1, 2), write(1, 2, 2), back(1, 0), write(1, 1, 3),
                write(1, 3, 3), delete(1, 4), back(1, 0), span(1, 0, 255), back(1, 0), span(1, 0, 255)]
        self.assertEqual(ask(*line)[-4:], [[1], [1, 2, 1, 1], [1], [1, 2, 1, 1]])

    def test_back_without_a_change_between(self):
        self.assertEqual(last(begin(), write(1, 1, 1), mark(1), back(1, 0)), [1])

    def test_later_marks_are_gone(self):
        line = [begin(), mark(1), mark(1), mark(1), back(1, 1), back(1, 2), mark(1), back(1, 2), back(1, 3)]
        self.assertEqual(ask(*line)[4:], [[0], [-7], [2], [0], [-7]])

    def test_the_mark_itself_and_earlier_ones_stay(self):
        line = [begin(), write(1, 1, 1), mark(1), write(1, 2, 2), mark(1), write(1, 3, 3), mark(1),
                back(1, 1), back(1, 1), back(1, 0), back(1, 1), span(1, 0, 255)]
        self.assertEqual(ask(*line)[-5:], [[2], [2], [1], [-7], [1, 2, 1, 1]])

    def test_a_mark_set_again_has_the_writes_of_then(self):
        line = [begin(), mark(1), write(1, 1, 1), mark(1), back(1, 0), write(1, 2, 2), mark(1), write(1, 3, 3),
                back(1, 1), span(1, 0, 255)]
        self.assertEqual(ask(*line)[-4:], [[1], [0], [1], [1, 2, 2, 2]])

    def test_no_such_mark(self):
        self.assertEqual(ask(begin(), back(1, 0), mark(1), back(1, 1), back(1, LARGEST), back(1, 0))[1:],
                         [[-7], [0], [-7], [-7], [0]])

    def test_the_16th_and_the_17th(self):
        told = ask(begin(), *[mark(1)] * 18)
        self.assertEqual(told[1:], [[n] for n in range(16)] + [[-6], [-6]])

    def test_after_the_17th_is_refused_the_16_are_there(self):
        line = [begin()]
        for key in range(16):
            line += [mark(1), write(1, key, key)]
        line += [mark(1), back(1, 16), back(1, 15), mark(1), back(1, 14), mark(1), mark(1)]
        self.assertEqual(ask(*line)[-7:], [[-6], [-7], [15], [-6], [14], [15], [-6]])

    def test_what_has_been_read_is_not_gone(self):
        line = [begin(), mark(1)] + [read(1, 1)] * 63 + [back(1, 0), read(1, 2), read(1, 2), back(1, 0), span(1, 0, 0)]
        self.assertEqual(ask(*line)[-5:], [[0], [0], [-6], [0], [-6]])

    def test_what_is_committed_is_what_is_left(self):
        line = [begin(), write(1, 1, 1), mark(1), write(1, 1, 2), write(1, 2, 2), back(1, 0), write(1, 3, 3),
                commit(1), begin(), span(2, 0, 255)]
        self.assertEqual(ask(*line)[-3:], [[1], [2], [2, 4, 1, 1, 3, 3]])


if __name__ == "__main__":
    unittest.main()
