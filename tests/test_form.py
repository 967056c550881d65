"""The interface: the form of what is handed in and of what is answered."""

import unittest

import asalone.store
from tests.lines import LARGEST, at, back, begin, changes, commit, crash, filled, flat, log, log_with, mark, read
from tests.lines import recover, shape, span, sync, vacuum, whole, write


class Form(unittest.TestCase):
    def told(self, *calls):
        return asalone.store.answers(flat(calls))

    def test_empty_list(self):
        self.assertEqual(asalone.store.answers([]), [])

    def test_called_by_its_parameters_name(self):
        self.assertEqual(asalone.store.answers(calls=[0, 1]), [1, 1])

    def test_a_line_written_out(self):
        line = [0, 0,  3, 1, 5, 9,  1, 1, 5,  1, 1, 6,  2, 1, 0, 255,  2, 1, 6, 7,  4, 1, 8,  5, 1,  6, 1, 0,
                0, 1,  3, 2, 5, 1,  7, 1,  7, 2,  0, 0,  8, 3]
        self.assertEqual(asalone.store.answers(line),
                         [1, 1,  1, 0,  3, 1, 1, 9,  1, 0,  4, 1, 2, 5, 9,  2, 0, 0,  1, 0,  1, 0,  1, 2,
                          1, 2,  1, 0,  1, 1,  4, -5, 2, 1, 5,  1, 3,  1, 0])

    def test_read_has_the_lists_count_ahead(self):
        self.assertEqual(self.told(begin(), write(1, 5, 9), read(1, 5)), [1, 1, 1, 0, 3, 1, 1, 9])

    def test_read_of_what_is_not_there_is_0_alone(self):
        self.assertEqual(self.told(begin(), read(1, 5)), [1, 1, 1, 0])

    def test_range_has_the_lists_count_ahead(self):
        self.assertEqual(self.told(begin(), write(1, 5, 9), write(1, 3, 7), span(1, 0, 9))[-7:], [6, 2, 4, 3, 7, 5, 9])

    def test_range_of_nothing_has_an_empty_list(self):
        self.assertEqual(self.told(begin(), span(1, 0, 9))[-3:], [2, 0, 0])

    def test_refusals_stand_alone(self):
        self.assertEqual(self.told(begin(2), commit(1), begin(), read(1, 256), span(1, 1, 0), back(1, 0),
                                   *[mark(1)] * 17)[:10], [1, -1, 1, -4, 1, 1, 1, -1, 1, -1])
        self.assertEqual(self.told(begin(), back(1, 0)), [1, 1, 1, -7])
        self.assertEqual(self.told(begin(), *[mark(1)] * 17)[-2:], [1, -6])

    def test_clash_has_its_list(self):
        line = [begin(), write(1, 5, 1)] + filled([(5, 2)], 2) + [commit(1)]
        self.assertEqual(self.told(*line)[-5:], [4, -5, 2, 1, 5])

    def test_a_line_of_the_other_calls_written_out(self):
        line = [9, 0, 5,  10, 0,  11, 0, 0,  12, 0,  13,  14,  15,  17,  0, 1,  3, 1, 5, 9,  7, 1,  9, 1, 5,  10, 1,
                11, 0, 1,  11, 1, 0,  15,  13,  12, 1,  0, 0,  3, 2, 5, 1,  1, 2, 6,  5, 2,  17,  14,  17,  15,
                16, 0,  16, 3, 0, 0, 32,  17,  16, 4, 0, 0, 32, 7,  9, 1, 5]
        self.assertEqual(asalone.store.answers(line),
                         [1, 0,  2, 0, 0,  2, 0, 0,  1, 0,  1, 0,  1, 0,  5, 3, 3, 0, 0, 32,  5, 0, 2, 0, 0, 0,
                          1, 1,  1, 0,  1, 1,  3, 1, 1, 9,  4, 1, 2, 5, 9,  5, 1, 3, 5, 1, 9,  5, 1, 3, 5, 0, 0,
                          10, 8, 8, 0, 0, 32, 1, 5, 1, 9, 29618092,  1, 1,  1, 1,  1, 2,  1, 0,  1, 0,  1, 0,
                          11, 1, 2, 1, 1, 6, 2, 1, 0, 1, 1, 1,  1, 0,  5, 1, 2, 1, 1, 0,
                          7, 5, 5, 1, 1, 5, 9, 61700,  1, -2,  1, 0,  5, 0, 2, 0, 0, 0,  1, 0,  1, -7])

    def test_at_and_all_as_read_and_range(self):
        line = filled([(5, 9), (3, 0)])
        self.assertEqual(self.told(*line, at(1, 5))[-4:], [3, 1, 1, 9])
        self.assertEqual(self.told(*line, at(1, 3))[-4:], [3, 1, 1, 0])
        self.assertEqual(self.told(*line, at(1, 4))[-2:], [1, 0])
        self.assertEqual(self.told(*line, whole(1))[-7:], [6, 2, 4, 3, 0, 5, 9])
        self.assertEqual(self.told(*line, whole(0))[-3:], [2, 0, 0])

    def test_changes_tells_three_numbers_a_key(self):
        line = filled([(5, 9), (3, 0)])
        self.assertEqual(self.told(*line, changes(0, 1))[-9:], [8, 2, 6, 3, 1, 0, 5, 1, 9])
        self.assertEqual(self.told(*line, changes(1, 0))[-9:], [8, 2, 6, 3, 0, 0, 5, 0, 0])
        self.assertEqual(self.told(*line, changes(1, 1))[-3:], [2, 0, 0])

    def test_vacuum_sync_crash_and_recover_answer_one_number(self):
        line = filled([(5, 9)])
        self.assertEqual(self.told(*line, sync(), vacuum(1), crash(), recover([0, 0, 32]))[-8:],
                         [1, 1, 1, 1, 1, 0, 1, 0])

    def test_log_has_its_count_twice(self):
        self.assertEqual(self.told(log()), [5, 3, 3, 0, 0, 32])

    def test_shape_has_both_lists_counts(self):
        self.assertEqual(self.told(shape()), [5, 0, 2, 0, 0, 0])
        self.assertEqual(self.told(begin(1), begin(0), shape())[-18:],
                         [17, 0, 2, 0, 0, 12, 1, 0, 1, 0, 0, 0, 2, 0, 0, 0, 0, 0])

    def test_refusals_of_the_other_calls_stand_alone(self):
        self.assertEqual(self.told(at(1, 0), at(0, 256), whole(1), changes(0, 1), vacuum(1), recover([])),
                         [1, -7, 1, -1, 1, -7, 1, -7, 1, -7, 1, -2])
        line = [begin()] + filled([(5, 9)], 2) + [sync(), vacuum(1)]
        self.assertEqual(self.told(*line)[-2:], [1, -3])

    def test_what_stands_in_a_recovers_list_is_no_call(self):
        calls = flat(filled([(5, 9)]))
        self.assertEqual(self.told(recover(calls), shape()), [1, -2, 5, 0, 2, 0, 0, 0])
        self.assertEqual(self.told(recover([0, 0, 32] + calls), begin()), [1, 0, 1, 1])

    def test_calls_behind_a_recover(self):
        for numbers in ([], [0], [0, 0, 32], log_with(3, [1, 1], [2, 1, 2]), [LARGEST] * 40):
            self.assertEqual(self.told(recover(numbers), begin(), sync())[2:], [1, 1, 1, 0])

    def test_200_calls(self):
        told = self.told(*[begin()] * 8, *[write(1, k, k) for k in range(191)], commit(1))
        self.assertEqual(told[-2:], [1, 1])
        self.assertEqual(len(told), 400)

    def test_largest_numbers(self):
        big = LARGEST
        self.assertEqual(asalone.store.answers([0, big, 0, 1, 1, big, big, 1, 1, big, 2, big, big, big, 2, 1, big, big,
                                                3, big, big, big, 3, 1, big, big, 4, big, big, 4, 1, big, 5, big,
                                                6, big, big, 6, 1, big, 7, big, 8, big]),
                         [1, -1, 1, 1, 1, -4, 1, -1, 1, -4, 1, -1, 1, -4, 1, -1, 1, -4, 1, -1, 1, -4,
                          1, -4, 1, -7, 1, -4, 1, -4])

    def test_largest_numbers_of_the_other_calls(self):
        big = LARGEST
        self.assertEqual(asalone.store.answers([9, big, 0, 9, 0, big, 9, big, big, 10, big, 11, big, 0, 11, 0, big,
                                                11, big, big, 12, big, 16, 1, big, 16, 3, big, big, big,
                                                16, 4, 0, 0, 32, big, 16, 5, 0, 0, 32, big, big, 17]),
                         [1, -7, 1, -1, 1, -7, 1, -7, 1, -7, 1, -7, 1, -7, 1, -7, 1, -2, 1, -2, 1, 0, 1, 0,
                          5, 0, 2, 0, 0, 0])


class Kept(unittest.TestCase):
    line = flat(filled([(5, 2), (1, 1)]) + [
        begin(1), mark(2), write(2, 5, 1), read(2, 1), back(2, 0), span(2, 0, 255), write(2, 9, 9)] + filled([(1, 4)], 3)
        + [commit(2), begin(7), read(77, 1), sync()] + filled([(8, 8)], 4) + [
        whole(0), whole(2), at(1, 5), changes(0, 2), changes(2, 0), vacuum(1), begin(), write(5, 5, 5), shape(), log(),
        crash(), log(), recover(log_with(4, [1, 1, 2, 2], [1, 1, 5, 2, 0, 0], [3, 1, 3]) + [1, 2]), whole(4), whole(5),
        begin(), write(6, 3, 4), commit(6), whole(6), log(), vacuum(6), log(), recover([7, 7]), shape()])

    def test_what_is_handed_in_is_as_it_was(self):
        handed = list(self.line)
        asalone.store.answers(handed)
        self.assertEqual(handed, self.line)

    def test_it_is_not_changed_for_a_while_either(self):
        class Watched(list):
            def fail(self, *_):
                raise AssertionError("changed")
            append = extend = insert = pop = remove = clear = sort = reverse = fail
            __setitem__ = __delitem__ = __iadd__ = __imul__ = fail

        self.assertEqual(asalone.store.answers(Watched(self.line)), asalone.store.answers(self.line))

    def test_a_second_time_answers_as_the_first(self):
        first = asalone.store.answers(self.line)
        asalone.store.answers(flat([begin()] * 8 + filled([(5, 77)], 1)))
        self.assertEqual(asalone.store.answers(self.line), first)

    def test_what_was_answered_is_its_own(self):
        first = asalone.store.answers(self.line)
        kept = list(first)
        first.clear()
        self.assertEqual(asalone.store.answers(self.line), kept)

    def test_whole_numbers_in_a_list(self):
        told = asalone.store.answers(self.line)
        self.assertIs(type(told), list)
        self.assertEqual({type(x) for x in told}, {int})
        self.assertIs(type(asalone.store.answers([])), list)


if __name__ == "__main__":
    unittest.main()
