"""T6: refused just as told: each refusal, their order, and that one changes nothing."""

import unittest

from tests.lines import LARGEST, abort, ask, at, back, begin, changes, commit, delete, filled, last, log, log_with, mark
from tests.lines import read, recover, shape, span, sync, vacuum, whole, write

HIGHEST_VALUE = 4294967295


class Begin(unittest.TestCase):
    def test_way(self):
        self.assertEqual(ask(begin(0), begin(1), begin(2), begin(LARGEST), begin(0)), [[1], [2], [-1], [-1], [3]])

    def test_the_8th_and_the_9th(self):
        self.assertEqual(ask(*[begin()] * 10), [[n] for n in range(1, 9)] + [[-6], [-6]])

    def test_way_before_too_many(self):
        self.assertEqual(ask(*[begin()] * 8, begin(2), begin(1))[-2:], [[-1], [-6]])

    def test_one_ended_makes_room_and_a_refused_one_takes_no_number(self):
        for end in (abort(3), commit(3)):
            self.assertEqual(ask(*[begin()] * 8, begin(), end, begin(), begin())[-4:], [[-6], [0], [9], [-6]])

    def test_one_committed_or_refused_for_a_clash_makes_room(self):
        line = [begin()] * 8 + [write(1, 1, 1), write(2, 1, 1), commit(1), begin(), begin(), commit(2), begin(), begin()]
        self.assertEqual(ask(*line)[-6:], [[1], [9], [-6], [-5, 2, 1, 1], [10], [-6]])


class NoneSuch(unittest.TestCase):
    def calls(self, number):
        """Each call of a transaction, as it may be and with every other refusal due as well."""
        return [read(number, 0), read(number, LARGEST), span(number, 0, 0), span(number, 1, 0),
                span(number, LARGEST, LARGEST), write(number, 0, 0), write(number, LARGEST, LARGEST),
                delete(number, 0), delete(number, LARGEST), mark(number), back(number, 0), back(number, LARGEST),
                commit(number), abort(number)]

    def test_never_begun(self):
        for number in (0, 1, 2, LARGEST):
            self.assertEqual(ask(*self.calls(number)), [[-4]] * 14)

    def test_not_yet_begun_or_0(self):
        for number in (0, 2, 9, LARGEST):
            self.assertEqual(ask(begin(), mark(1), *self.calls(number))[2:], [[-4]] * 14)

    def test_ended(self):
        for end in (commit(1), abort(1)):
            self.assertEqual(ask(begin(), mark(1), end, begin(), *self.calls(1))[4:], [[-4]] * 14)

    def test_ended_having_written(self):
        for end in (commit(1), abort(1)):
            self.assertEqual(ask(begin(), write(1, 1, 1), mark(1), end, *self.calls(1))[4:], [[-4]] * 14)

    def test_gone_by_a_clash(self):
        line = [begin(), write(1, 1, 1), mark(1)] + filled([(1, 2)], 2) + [commit(1)]
        self.assertEqual(ask(*line, *self.calls(1))[7:], [[-4]] * 14)


class KeysAndValues(unittest.TestCase):
    def test_read(self):
        self.assertEqual(ask(begin(), read(1, 0), read(1, 255), read(1, 256), read(1, LARGEST))[1:],
                         [[0], [0], [-1], [-1]])

    def test_range(self):
        line = [begin(), span(1, 0, 255), span(1, 0, 256), span(1, 255, 256), span(1, 256, 256), span(1, 256, 255),
                span(1, LARGEST, LARGEST), span(1, 0, LARGEST), span(1, LARGEST, 0)]
        self.assertEqual(ask(*line)[1:], [[0, 0]] + [[-1]] * 7)

    def test_range_hi_below_lo(self):
        line = [begin(), span(1, 1, 0), span(1, 255, 254), span(1, 0, 0), span(1, 255, 255), span(1, 254, 255)]
        self.assertEqual(ask(*line)[1:], [[-1], [-1], [0, 0], [0, 0], [0, 0]])

    def test_write(self):
        line = [begin(), write(1, 0, 0), write(1, 255, HIGHEST_VALUE), write(1, 256, 0), write(1, 0, HIGHEST_VALUE + 1),
                write(1, LARGEST, 1), write(1, 1, LARGEST), write(1, 256, HIGHEST_VALUE + 1), span(1, 0, 255)]
        self.assertEqual(ask(*line)[1:],
                         [[0], [0], [-1], [-1], [-1], [-1], [-1], [2, 4, 0, 0, 255, HIGHEST_VALUE]])

    def test_delete(self):
        line = [begin(), write(1, 0, 1), write(1, 255, 1), delete(1, 256), delete(1, LARGEST), delete(1, 0),
                delete(1, 255), span(1, 0, 255)]
        self.assertEqual(ask(*line)[3:], [[-1], [-1], [0], [0], [0, 0]])

    def test_highest_key_and_value_committed(self):
        line = filled([(255, HIGHEST_VALUE), (0, HIGHEST_VALUE)]) + [begin(), span(2, 0, 255), read(2, 255)]
        self.assertEqual(ask(*line)[-2:], [[2, 4, 0, HIGHEST_VALUE, 255, HIGHEST_VALUE], [1, 1, HIGHEST_VALUE]])


class Reads(unittest.TestCase):
    def test_the_64th_and_the_65th_by_read(self):
        self.assertEqual(ask(begin(), *[read(1, k) for k in range(66)])[1:], [[0]] * 64 + [[-6]] * 2)

    def test_the_same_key_again_is_one_more(self):
        self.assertEqual(ask(begin(), *[read(1, 7)] * 65)[-2:], [[0], [-6]])

    def test_the_64th_and_the_65th_by_range(self):
        self.assertEqual(ask(begin(), *[span(1, 3, 4)] * 65)[-2:], [[0, 0], [-6]])

    def test_reads_and_ranges_together(self):
        line = [begin()] + [read(1, 1), span(1, 0, 255)] * 32
        self.assertEqual(ask(*line, read(1, 1), span(1, 0, 0))[-3:], [[0, 0], [-6], [-6]])

    def test_in_either_way(self):
        for way in (0, 1):
            self.assertEqual(ask(begin(way), *[read(1, 7)] * 65)[-2:], [[0], [-6]])

    def test_a_key_that_it_has_written_is_read_behind_64(self):
        line = [begin(), write(1, 5, 50), delete(1, 6)] + [read(1, 7)] * 64
        line += [read(1, 5), read(1, 6), read(1, 7), write(1, 7, 70), read(1, 7)]
        self.assertEqual(ask(*line)[-5:], [[1, 1, 50], [0], [-6], [0], [1, 1, 70]])

    def test_a_read_of_a_key_that_it_has_written_is_none(self):
        line = [begin(), write(1, 5, 50), delete(1, 6)] + [read(1, 5), read(1, 6)] * 40
        self.assertEqual(ask(*line, *[read(1, 7)] * 65)[-2:], [[0], [-6]])

    def test_a_range_over_written_keys_is_one(self):
        line = [begin(), write(1, 5, 50)] + [span(1, 5, 5)] * 65
        self.assertEqual(ask(*line)[-2:], [[1, 2, 5, 50], [-6]])

    def test_each_transaction_has_its_own(self):
        line = [begin(), begin()] + [read(1, 7)] * 64 + [read(2, 7), span(2, 0, 0), read(1, 7)]
        self.assertEqual(ask(*line)[-3:], [[0], [0, 0], [-6]])

    def test_a_refused_one_does_not_count(self):
        line = [begin()] + [read(1, 256), span(1, 2, 1)] * 20 + [read(1, 7)] * 65
        self.assertEqual(ask(*line)[-2:], [[0], [-6]])

    def test_key_before_too_many(self):
        line = [begin()] + [read(1, 7)] * 64 + [read(1, 256), span(1, 1, 0), span(1, 0, 256), read(1, 255)]
        self.assertEqual(ask(*line)[-4:], [[-1], [-1], [-1], [-6]])


class NothingChanges(unittest.TestCase):
    """A line with refused calls put in between answers the others as if these weren't there."""

    line = (filled([(1, 10), (2, 20)]) + [
        begin(1), begin(0), mark(2), write(2, 1, 11), read(2, 2), mark(2), write(3, 5, 5), span(2, 0, 255),
        delete(2, 2), back(2, 1), mark(3), commit(3), span(2, 0, 255), begin(), write(4, 200, 1), commit(4),
        read(2, 1), begin(), read(5, 5), commit(2), begin(), span(6, 0, 255)])

    refused = [begin(2), read(9, 1), read(0, 1), commit(9), abort(9), mark(9), back(9, 0), write(9, 1, 1), delete(9, 1)]

    def refused_of(self, number):
        return [read(number, 256), span(number, 0, 256), span(number, 9, 8), write(number, 256, 1),
                write(number, 1, HIGHEST_VALUE + 1), delete(number, 256), back(number, 16)]

    def test_refused_calls_between(self):
        plain = ask(*self.line)
        for place in range(len(self.line) + 1):
            for call in self.refused + self.refused_of(2) + self.refused_of(3):
                told = ask(*self.line[:place], call, *self.line[place:])
                self.assertIn(told[place], [[-1], [-4], [-7]])
                self.assertEqual(told[:place] + told[place + 1:], plain)

    def test_refused_calls_of_the_past_between(self):
        line = [begin(1), mark(1)] + filled([(1, 10), (2, 20)], 2) + [sync(), read(1, 1), begin(0)]
        line += filled([(2, 21)], 4) + [sync(), write(1, 9, 9), shape(), log(), commit(1), vacuum(1), whole(1), whole(2)]
        line += filled([(3, 3)], 5) + [shape(), log(), write(3, 3, 4), commit(3), vacuum(3), whole(4), changes(2, 4)]
        refused = [at(9, 1), at(9, 256), at(2, 256), whole(9), changes(2, 9), changes(9, 2), vacuum(9), recover([]),
                   recover(log_with(4294967296, [])), recover(log_with(1, [2, 1, 1, 1])),
                   recover(log_with(1, [2, 1], [3, 1, 3])[1:])]
        plain = ask(*line)
        for place in range(len(line) + 1):
            for call in refused:
                told = ask(*line[:place], call, *line[place:])
                self.assertIn(told[place], [[-1], [-2], [-7]])
                self.assertEqual(told[:place] + told[place + 1:], plain)

    def test_each_refusal_leaves_all_as_it_was(self):
        # Base 1, safe 3, now 4; number 2 sees 1, has read 64 times and has 16 marks; with it 8 are open.
        line = filled([(1, 1)]) + [sync(), vacuum(1), begin(1), write(2, 9, 9)] + [read(2, 7)] * 64 + [mark(2)] * 16
        line += filled([(2, 2), (1, 5)], 3) + filled([(1, 6)], 4) + [sync()] + filled([(1, 7)], 5) + [begin(0)] * 7
        asked = [shape(), log()] + [whole(n) for n in range(1, 5)] + [changes(1, 4), changes(4, 1), begin(2)]
        refused = {-1: [begin(2), begin(LARGEST), read(2, 256), span(2, 3, 2), span(2, 0, 256), write(2, 256, 0),
                        write(2, 0, HIGHEST_VALUE + 1), delete(2, 256), at(1, 256), at(4, LARGEST)],
                   -2: [recover([]), recover([1, 0]), recover([1, 0, 1]), recover([0, 0, 31])],
                   -3: [vacuum(2), vacuum(3)],
                   -4: [read(1, 1), span(13, 0, 1), write(5, 1, 1), delete(0, 1), mark(4), back(3, 0), commit(1),
                        abort(LARGEST)],
                   -6: [begin(0), begin(1), read(2, 7), span(2, 0, 9), mark(2)],
                   -7: [back(2, 16), back(6, 0), at(0, 1), at(5, 1), whole(0), whole(5), changes(0, 1), changes(1, 0),
                        changes(4, 5), changes(5, 4), vacuum(0), vacuum(4), vacuum(5), vacuum(LARGEST)]}
        for number, calls in refused.items():
            for call in calls:
                told = ask(*line, *asked, call, *asked)[len(line):]
                self.assertEqual(told[len(asked)], [number], call)
                self.assertEqual(told[:len(asked)], told[len(asked) + 1:], call)

    def test_a_refused_write_leaves_what_was_written(self):
        line = [begin(), write(1, 1, 5), write(1, 1, HIGHEST_VALUE + 1), read(1, 1), mark(1), back(1, 0)]
        self.assertEqual(ask(*line)[2:], [[-1], [1, 1, 5], [0], [1]])

    def test_refused_ones_alone_write_nothing(self):
        line = [begin(), write(1, 256, 1), write(1, 1, HIGHEST_VALUE + 1), delete(1, 256), commit(1)]
        self.assertEqual(last(*line), [0])


if __name__ == "__main__":
    unittest.main()
