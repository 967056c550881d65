"""The interface: the form of what is handed in and of what is answered."""

import unittest

import asalone.store
from tests.lines import LARGEST, back, begin, commit, filled, flat, mark, read, span, write


class Form(unittest.TestCase):
    def told(self, *calls):
        return asalone.store.answers(flat(calls))

    def test_empty_list(self):
        self.assertEqual(asalone.store.answers([]), [])

    def test_called_by_its_parameters_name(self):
        self.assertEqual(asalone.store.answers(calls=[0, 1]), [1, 1])

    def test_a_line_written_out(self):
        line = [0, 0,  3, 1, 5, 9,  1, 1, 5,  1, 1, 6,  2, 1, 0, 255,  2, 1, 6, 7,  4, 1, 8,  5, 1,  6, 1, 0,
                0, 1,  3, 2, 5, 1,  7, 1,  7, 2,  0, 0,  8, 3]
        self.assertEqual(asalone.store.answers(line),
                         [1, 1,  1, 0,  3, 1, 1, 9,  1, 0,  4, 1, 2, 5, 9,  2, 0, 0,  1, 0,  1, 0,  1, 2,
                          1, 2,  1, 0,  1, 1,  4, -5, 2, 1, 5,  1, 3,  1, 0])

    def test_read_has_the_lists_count_ahead(self):
        self.assertEqual(self.told(begin(), write(1, 5, 9), read(1, 5)), [1, 1, 1, 0, 3, 1, 1, 9])

    def test_read_of_what_is_not_there_is_0_alone(self):
        self.assertEqual(self.told(begin(), read(1, 5)), [1, 1, 1, 0])

    def test_range_has_the_lists_count_ahead(self):
        self.assertEqual(self.told(begin(), write(1, 5, 9), write(1, 3, 7), span(1, 0, 9))[-7:], [6, 2, 4, 3, 7, 5, 9])

    def test_range_of_nothing_has_an_empty_list(self):
        self.assertEqual(self.told(begin(), span(1, 0, 9))[-3:], [2, 0, 0])

    def test_refusals_stand_alone(self):
        self.assertEqual(self.told(begin(2), commit(1), begin(), read(1, 256), span(1, 1, 0), back(1, 0),
                                   *[mark(1)] * 17)[:10], [1, -1, 1, -4, 1, 1, 1, -1, 1, -1])
        self.assertEqual(self.told(begin(), back(1, 0)), [1, 1, 1, -7])
        self.assertEqual(self.told(begin(), *[mark(1)] * 17)[-2:], [1, -6])

    def test_clash_has_its_list(self):
        line = [begin(), write(1, 5, 1)] + filled([(5, 2)], 2) + [commit(1)]
        self.assertEqual(self.told(*line)[-5:], [4, -5, 2, 1, 5])

    def test_200_calls(self):
        told = self.told(*[begin()] * 8, *[write(1, k, k) for k in range(191)], commit(1))
        self.assertEqual(told[-2:], [1, 1])
        self.assertEqual(len(told), 400)

    def test_largest_numbers(self):
        big = LARGEST
        self.assertEqual(asalone.store.answers([0, big, 0, 1, 1, big, big, 1, 1, big, 2, big, big, big, 2, 1, big, big,
                                                3, big, big, big, 3, 1, big, big, 4, big, big, 4, 1, big, 5, big,
                                                6, big, big, 6, 1, big, 7, big, 8, big]),
                         [1, -1, 1, 1, 1, -4, 1, -1, 1, -4, 1, -1, 1, -4, 1, -1, 1, -4, 1, -1, 1, -4,
                          1, -4, 1, -7, 1, -4, 1, -4])


class Kept(unittest.TestCase):
    line = flat(filled([(5, 2), (1, 1)]) + [
        begin(1), mark(2), write(2, 5, 1), read(2, 1), back(2, 0), span(2, 0, 255), write(2, 9, 9)] + filled([(1, 4)], 3)
        + [commit(2), begin(7), read(77, 1)])

    def test_what_is_handed_in_is_as_it_was(self):
        handed = list(self.line)
        asalone.store.answers(handed)
        self.assertEqual(handed, self.line)

    def test_it_is_not_changed_for_a_while_either(self):
        class Watched(list):
            def fail(self, *_):
                raise AssertionError("changed")
            append = extend = insert = pop = remove = clear = sort = reverse = fail
            __setitem__ = __delitem__ = __iadd__ = __imul__ = fail

        self.assertEqual(asalone.store.answers(Watched(self.line)), asalone.store.answers(self.line))

    def test_a_second_time_answers_as_the_first(self):
        first = asalone.store.answers(self.line)
        asalone.store.answers(flat([begin()] * 8 + filled([(5, 77)], 1)))
        self.assertEqual(asalone.store.answers(self.line), first)

    def test_what_was_answered_is_its_own(self):
        first = asalone.store.answers(self.line)
        kept = list(first)
        first.clear()
        self.assertEqual(asalone.store.answers(self.line), kept)

    def test_whole_numbers_in_a_list(self):
        told = asalone.store.answers(self.line)
        self.assertIs(type(told), list)
        self.assertEqual({type(x) for x in told}, {int})
        self.assertIs(type(asalone.store.answers([])), list)


if __name__ == "__main__":
    unittest.main()
