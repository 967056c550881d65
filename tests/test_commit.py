"""T2 and T3: what a commit answers, which store it makes, and with what it clashes."""

import unittest

from tests.lines import abort, ask, back, begin, commit, delete, filled, last, mark, read, span, write


class Numbers(unittest.TestCase):
    def test_commits_are_numbered_one_after_another(self):
        line = []
        for number in range(1, 6):
            line += filled([(number, number)], number)
        self.assertEqual([part for part in ask(*line)[2::3]], [[n] for n in range(1, 6)])

    def test_ended_without_a_commit_takes_no_number(self):
        line = [begin(), begin(), begin(), begin(), write(1, 1, 1), abort(1), commit(2),
                write(3, 3, 3), commit(3), write(4, 3, 4), commit(4)] + filled([(9, 9)], 5)
        told = ask(*line)
        self.assertEqual([told[i] for i in (5, 6, 8, 10, 13)], [[0], [0], [1], [-5, 2, 1, 3], [2]])

    def test_transactions_are_numbered_as_they_begin_never_twice(self):
        self.assertEqual(ask(begin(), abort(1), begin(), commit(2), begin(1), begin()),
                         [[1], [0], [2], [0], [3], [4]])


class Whole(unittest.TestCase):
    def test_all_it_wrote_is_the_next_store(self):
        line = filled([(1, 10), (2, 20), (3, 30)]) + [
            begin(), write(2, 1, 11), delete(2, 2), write(2, 4, 44), commit(2), begin(), span(3, 0, 255)]
        self.assertEqual(last(*line), [3, 6, 1, 11, 3, 30, 4, 44])

    def test_on_top_of_commits_it_does_not_see(self):
        line = [begin(), begin(), write(1, 1, 10), write(2, 2, 20), commit(2), commit(1), begin(), span(3, 0, 255)]
        self.assertEqual(ask(*line)[-4:], [[1], [2], [3], [2, 4, 1, 10, 2, 20]])

    def test_refused_for_a_clash_nothing_is_written(self):
        line = [begin(), begin(), write(1, 1, 10), write(2, 1, 11), write(2, 2, 22), commit(1), commit(2),
                begin(), span(3, 0, 255)]
        self.assertEqual(ask(*line)[-3:], [[-5, 2, 1, 1], [3], [1, 2, 1, 10]])

    def test_delete_of_what_is_not_there_is_a_write(self):
        line = [begin(), begin(), delete(1, 6), delete(2, 6), commit(1), commit(2), begin(), span(3, 0, 255)]
        self.assertEqual(ask(*line)[-4:], [[1], [-5, 2, 1, 6], [3], [0, 0]])

    def test_write_of_the_value_that_is_there_is_a_write(self):
        line = filled([(6, 60)]) + [begin(), begin(), write(2, 6, 60), commit(2), write(3, 6, 60), commit(3)]
        self.assertEqual([ask(*line)[i] for i in (6, 8)], [[2], [-5, 2, 2, 6]])


class NothingWritten(unittest.TestCase):
    def test_answers_0_whatever_it_has_read(self):
        for way in (0, 1):
            line = [begin(way), read(1, 5), span(1, 0, 255), begin(), write(2, 5, 50), commit(2), commit(1)]
            self.assertEqual(ask(*line)[-2:], [[1], [0]])

    def test_answers_0_having_done_nothing(self):
        for way in (0, 1):
            self.assertEqual(ask(begin(way), commit(1), commit(1)), [[1], [0], [-4]])

    def test_writes_taken_back_are_none(self):
        for way in (0, 1):
            line = [begin(way), mark(1), read(1, 5), write(1, 5, 1), back(1, 0),
                    begin(), write(2, 5, 50), commit(2), commit(1)]
            self.assertEqual(ask(*line)[-2:], [[1], [0]])

    def test_it_makes_no_commit(self):
        line = [begin(), commit(1)] + filled([(1, 1)], 2)
        self.assertEqual(last(*line), [1])


class FirstWins(unittest.TestCase):
    def test_written_by_both(self):
        for way in (0, 1):
            line = [begin(way), begin(way), write(1, 5, 1), write(2, 5, 2), commit(2), commit(1)]
            self.assertEqual(ask(*line)[-2:], [[1], [-5, 2, 1, 5]])

    def test_taken_out_by_either(self):
        for one, other in ((delete(1, 5), write(2, 5, 2)), (write(1, 5, 1), delete(2, 5)),
                           (delete(1, 5), delete(2, 5))):
            line = filled([(5, 50)], 1)
            one = [one[0], 2] + one[2:]
            other = [other[0], 3] + other[2:]
            line += [begin(), begin(), one, other, commit(2), commit(3)]
            self.assertEqual(ask(*line)[-2:], [[2], [-5, 2, 2, 5]])

    def test_other_keys_do_not_clash(self):
        for way in (0, 1):
            line = [begin(way), begin(way), write(1, 4, 1), write(2, 5, 2), commit(2), commit(1)]
            self.assertEqual(ask(*line)[-2:], [[1], [2]])

    def test_a_commit_that_it_sees_does_not_clash(self):
        for way in (0, 1):
            line = filled([(5, 50)]) + [begin(way), read(2, 5), write(2, 5, 51), commit(2)]
            self.assertEqual(last(*line), [2])

    def test_the_very_commit_behind_the_one_it_sees_clashes(self):
        line = filled([(5, 50)]) + [begin()] + filled([(5, 51)], 3) + [write(2, 5, 52), commit(2)]
        self.assertEqual(last(*line), [-5, 2, 2, 5])

    def test_an_aborted_or_refused_one_does_not_clash(self):
        line = [begin(), begin(), begin(), begin(), write(1, 7, 1), write(2, 5, 1), abort(2),
                write(3, 5, 1), write(3, 7, 1), commit(1), commit(3), write(4, 5, 9), commit(4)]
        self.assertEqual([ask(*line)[i] for i in (9, 10, 12)], [[1], [-5, 2, 1, 7], [2]])

    def test_an_uncommitted_one_does_not_clash(self):
        line = [begin(), begin(), write(1, 5, 1), write(2, 5, 2), commit(1)]
        self.assertEqual(last(*line), [1])

    def test_written_before_or_after_the_others_commit(self):
        line = [begin(), begin(), write(2, 5, 2), commit(2), write(1, 5, 1), commit(1)]
        self.assertEqual(last(*line), [-5, 2, 1, 5])

    def test_the_first_such_commit_and_its_least_key(self):
        line = [begin()]
        line += filled([(200, 1), (3, 1)], 2)
        line += filled([(90, 1), (20, 1), (2, 1), (60, 1)], 3)
        line += filled([(10, 1), (20, 1)], 4)
        line += [write(1, 60, 0), write(1, 10, 0), delete(1, 90), write(1, 20, 0), commit(1)]
        self.assertEqual(last(*line), [-5, 2, 2, 20])

    def test_least_key_at_the_ends(self):
        line = [begin()] + filled([(255, 1), (0, 1)], 2) + [write(1, 255, 9), write(1, 0, 9), commit(1)]
        self.assertEqual(last(*line), [-5, 2, 1, 0])
        line = [begin()] + filled([(255, 1)], 2) + [write(1, 255, 9), write(1, 0, 9), commit(1)]
        self.assertEqual(last(*line), [-5, 2, 1, 255])

    def test_what_was_taken_back_is_not_minded(self):
        line = [begin(), write(1, 1, 1), mark(1), write(1, 5, 1), back(1, 0)] + filled([(5, 2)], 2) + [commit(1)]
        self.assertEqual(last(*line), [2])

    def test_gone_after_a_clash(self):
        line = [begin(), write(1, 5, 1)] + filled([(5, 2)], 2) + [commit(1), commit(1), read(1, 5), abort(1)]
        self.assertEqual(ask(*line)[-4:], [[-5, 2, 1, 5], [-4], [-4], [-4]])


class Minded(unittest.TestCase):
    """The other commits key 5 (and 6); number 1 writes key 100 and has read as told."""

    def told(self, way, *reads):
        line = [begin(way), *reads, write(1, 100, 1)] + filled([(6, 2), (5, 2)], 2) + [commit(1)]
        return last(*line)

    def test_way_0_does_not_mind_what_it_has_read(self):
        self.assertEqual(self.told(0, read(1, 5), span(1, 0, 255)), [2])

    def test_way_1_minds_a_key_read(self):
        self.assertEqual(self.told(1, read(1, 5)), [-5, 2, 1, 5])
        self.assertEqual(self.told(1, read(1, 6)), [-5, 2, 1, 6])

    def test_way_1_does_not_mind_other_keys(self):
        self.assertEqual(self.told(1, read(1, 4), read(1, 7)), [2])
        self.assertEqual(self.told(1), [2])

    def test_way_1_minds_all_keys_within_a_range(self):
        self.assertEqual(self.told(1, span(1, 0, 255)), [-5, 2, 1, 5])
        self.assertEqual(self.told(1, span(1, 0, 5)), [-5, 2, 1, 5])
        self.assertEqual(self.told(1, span(1, 6, 9)), [-5, 2, 1, 6])
        self.assertEqual(self.told(1, span(1, 5, 5)), [-5, 2, 1, 5])

    def test_way_1_does_not_mind_keys_beside_a_range(self):
        self.assertEqual(self.told(1, span(1, 0, 4), span(1, 7, 255)), [2])

    def test_way_1_minds_the_last_of_many_reads(self):
        reads = [read(1, 50 + k) for k in range(63)]
        self.assertEqual(self.told(1, *reads, read(1, 5)), [-5, 2, 1, 5])
        self.assertEqual(self.told(1, read(1, 5), *reads), [-5, 2, 1, 5])

    def test_a_read_of_what_it_has_written_before_is_none(self):
        line = [begin(1), mark(1), write(1, 5, 1), read(1, 5), back(1, 0), write(1, 100, 1)]
        line += filled([(5, 2)], 2) + [commit(1)]
        self.assertEqual(last(*line), [2])
        line[2] = delete(1, 5)
        self.assertEqual(last(*line), [2])

    def test_a_range_over_what_it_has_written_is_one(self):
        line = [begin(1), mark(1), write(1, 5, 1), span(1, 5, 5), back(1, 0), write(1, 100, 1)]
        line += filled([(5, 2)], 2) + [commit(1)]
        self.assertEqual(last(*line), [-5, 2, 1, 5])

    def test_what_it_has_read_is_minded_after_back(self):
        line = [begin(1), mark(1), read(1, 5), back(1, 0), write(1, 100, 1)] + filled([(5, 2)], 2) + [commit(1)]
        self.assertEqual(last(*line), [-5, 2, 1, 5])

    def test_a_refused_read_is_not_minded(self):
        line = [begin(1)] + [read(1, 50)] * 64 + [read(1, 5), span(1, 5, 6), span(1, 6, 5), write(1, 100, 1)]
        line += filled([(5, 2), (6, 2)], 2) + [commit(1)]
        self.assertEqual(last(*line), [2])

    def test_read_after_the_other_has_committed(self):
        line = [begin(1)] + filled([(5, 2)], 2) + [read(1, 5), write(1, 100, 1), commit(1)]
        self.assertEqual(ask(*line)[-3:], [[0], [0], [-5, 2, 1, 5]])

    def test_the_way_of_the_other_does_not_matter(self):
        for way in (0, 1):
            line = [begin(1), read(1, 5), write(1, 100, 1), begin(way), write(2, 5, 1), commit(2), commit(1)]
            self.assertEqual(last(*line), [-5, 2, 1, 5])

    def test_a_key_that_was_not_there_when_read(self):
        line = filled([(5, 1)]) + [begin(1), read(2, 9), span(2, 20, 30), write(2, 100, 1)]
        self.assertEqual(last(*line, *filled([(9, 1)], 3), commit(2)), [-5, 2, 2, 9])
        self.assertEqual(last(*line, *filled([(25, 1)], 3), commit(2)), [-5, 2, 2, 25])

    def test_the_same_value_written_again_clashes(self):
        line = filled([(5, 1)]) + [begin(1), read(2, 5), write(2, 100, 1)] + filled([(5, 1)], 3) + [commit(2)]
        self.assertEqual(last(*line), [-5, 2, 2, 5])

    def test_two_that_each_read_what_the_other_writes(self):
        def crossed(way):
            return ask(begin(way), begin(way), read(1, 1), read(2, 2), write(1, 2, 9), write(2, 1, 9),
                       commit(1), commit(2))[-2:]
        self.assertEqual(crossed(0), [[1], [2]])
        self.assertEqual(crossed(1), [[1], [-5, 2, 1, 2]])

    def test_first_commit_whether_by_a_read_or_by_a_write(self):
        line = [begin(1), read(1, 9), write(1, 3, 1)] + filled([(9, 1)], 2) + filled([(3, 1)], 3) + [commit(1)]
        self.assertEqual(last(*line), [-5, 2, 1, 9])
        line = [begin(1), read(1, 9), write(1, 3, 1)] + filled([(9, 1), (3, 1)], 2) + [commit(1)]
        self.assertEqual(last(*line), [-5, 2, 1, 3])


class Abort(unittest.TestCase):
    def test_no_longer_open(self):
        line = [begin(), write(1, 1, 1), abort(1), abort(1), commit(1), begin(), span(2, 0, 255)]
        self.assertEqual(ask(*line), [[1], [0], [0], [-4], [-4], [2], [0, 0]])

    def test_others_stay(self):
        line = [begin(), begin(), write(2, 1, 1), abort(1), read(2, 1), commit(2)]
        self.assertEqual(ask(*line)[-3:], [[0], [1, 1, 1], [1]])


if __name__ == "__main__":
    unittest.main()
