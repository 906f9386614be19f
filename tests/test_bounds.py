import copy
import itertools
import random
import unittest

from exacttable.bounds import bounds
from exacttable.frames import Frame
from exacttable.tables import is_table
from tests.things import (
    GREATEST, all_tables, few_frames, great_frames, great_table, no_places, refusal, short_time, sizes, sums_of, told,
)


def cells(frame):
    return itertools.product(range(len(frame.rows())), range(len(frame.columns())))


def free_ends(frame, i, j):
    """What a cell of a free frame can be: all but what the other rows and columns can hold, and no more than it has."""
    row, column, whole = frame.rows()[i], frame.columns()[j], sum(frame.rows())
    return max(0, row + column - whole), min(row, column)


class Checked(unittest.TestCase):
    def check(self, frame, i, j):
        answer = bounds(frame, i, j)
        self.assertEqual((type(answer), len(answer)), (tuple, 4))
        least, greatest, one, other = answer
        self.assertEqual([type(least), type(greatest)], [int, int])
        for table in (one, other):
            self.assertEqual({type(table)} | {type(row) for row in table}, {list})
            self.assertTrue(is_table(frame, table))
        self.assertEqual((one[i][j], other[i][j]), (least, greatest))
        return least, greatest


class Small(Checked):
    def test_each_cell_against_all_tables(self):
        done = 0
        for frame in few_frames():
            tables = all_tables(frame)
            for i, j in cells(frame):
                if tables:
                    numbers = [table[i][j] for table in tables]
                    self.assertEqual(self.check(frame, i, j), (min(numbers), max(numbers)))
                    done += 1
                else:
                    self.assertEqual(refusal(bounds, frame, i, j), "NoTable")
        self.assertGreater(done, 500)

    def test_by_hand(self):
        frame = Frame([3, 4], [1, 3, 3], [[None, 0, None], [2, None, 1]])
        self.assertEqual(bounds(frame, 0, 0), (0, 1, [[0, 0, 3], [1, 3, 0]], [[1, 0, 2], [0, 3, 1]]))
        self.assertEqual(bounds(Frame([2, 3], [1, 4]), 0, 1), (1, 2, [[1, 1], [0, 3]], [[0, 2], [1, 2]]))

    def test_shut_cells_that_let_a_ring_alone_be(self):
        shut = [[None if (i - j) % 6 in (0, 1) else 0 for j in range(6)] for i in range(6)]
        for many in (1, 7, GREATEST):
            frame = Frame([many] * 6, [many] * 6, shut)
            for i, j in cells(frame):
                self.assertEqual(self.check(frame, i, j), (0, many if shut[i][j] is None else 0))

    def test_one_cell_bound_bears_on_all_of_a_ring(self):
        caps = [[None if (i - j) % 6 in (0, 1) else 0 for j in range(6)] for i in range(6)]
        caps[2][2] = 5
        frame = Frame([1000] * 6, [1000] * 6, caps)
        for i, j in cells(frame):
            ends = {0: (0, 5), 1: (995, 1000)}
            self.assertEqual(self.check(frame, i, j), ends.get((i - j) % 6, (0, 0)))
        # With at most 994 at a cell beside the slant, those on it have at least 6: more than 5.
        caps[4][3] = 994
        self.assertEqual(refusal(bounds, Frame([1000] * 6, [1000] * 6, caps), 0, 0), "NoTable")
        caps[4][3] = 995
        self.assertEqual(self.check(Frame([1000] * 6, [1000] * 6, caps), 0, 0), (5, 5))


class Great(Checked):
    def test_free_frames(self):
        with short_time():
            for height, width in sizes():
                frame = Frame(*sums_of(great_table(height, width)))
                for i, j in cells(frame):
                    self.assertEqual(self.check(frame, i, j), free_ends(frame, i, j))

    def test_with_caps_in_a_short_time(self):
        with short_time(60):
            for frame, table in great_frames():
                for i, j in cells(frame):
                    least, greatest = self.check(frame, i, j)
                    self.assertLessEqual(least, table[i][j])
                    self.assertLessEqual(table[i][j], greatest)
                    if frame.caps() == table:
                        self.assertEqual((least, greatest), (table[i][j], table[i][j]))

    def test_by_what_caps_leave_over(self):
        """Caps that leave little over: what each cell has less than its cap is a table of a frame of few."""
        for over in (Frame([4, 3], [2, 1, 4]), Frame([2, 1, 2], [1, 3, 1]), Frame([1, 0, 2, 1], [1, 1, 1, 1]),
                     Frame([1, 0, 2, 0, 1, 0], [0, 1, 1, 0, 1, 1])):
            rows, columns = over.rows(), over.columns()
            caps = [[GREATEST // 7 + 1000 * i + j * j for j in range(len(columns))] for i in range(len(rows))]
            row_caps, column_caps = sums_of(caps)
            frame = Frame([have - less for have, less in zip(row_caps, rows)],
                          [have - less for have, less in zip(column_caps, columns)], caps)
            for i, j in cells(frame):
                numbers = [caps[i][j] - table[i][j] for table in all_tables(over)]
                with short_time():
                    self.assertEqual(self.check(frame, i, j), (min(numbers), max(numbers)))

    def test_many_times_a_small_frame(self):
        """With all sums and caps so many times greater, what a cell can be is so many times greater, too."""
        chance = random.Random(7)
        for frame in few_frames():
            many = chance.randint(GREATEST // 40, GREATEST // 30)
            great = Frame([total * many for total in frame.rows()], [total * many for total in frame.columns()],
                          [[None if cap is None else cap * many for cap in row] for row in frame.caps()])
            tables = all_tables(frame)
            for i, j in cells(frame):
                if tables:
                    numbers = [table[i][j] * many for table in tables]
                    self.assertEqual(self.check(great, i, j), (min(numbers), max(numbers)))
                else:
                    self.assertEqual(refusal(bounds, great, i, j), "NoTable")


class Refused(unittest.TestCase):
    def test_what_is_no_cell(self):
        for frame in (Frame([2, 2], [1, 1, 2]), Frame([2, 2], [1, 1, 2], [[0, 0, 0]] * 2), Frame([1, 1], [1, 1, 1])):
            for thing in no_places(2):
                self.assertEqual(refusal(bounds, frame, thing, 0), "NoCell")
                self.assertEqual(refusal(bounds, frame, thing, None), "NoCell")
            for thing in no_places(3):
                self.assertEqual(refusal(bounds, frame, 0, thing), "NoCell")
                self.assertEqual(refusal(bounds, frame, 1, thing), "NoCell")

    def test_a_frame_without_tables(self):
        for frame in (Frame([1], [2]), Frame([2], [1]), Frame([1, 1], [1, 1], [[0, 0], [None, None]]),
                      Frame([GREATEST] * 6, [GREATEST] * 5), Frame([GREATEST] * 6, [GREATEST] * 6, [[7] * 6] * 6)):
            for i, j in cells(frame):
                self.assertEqual(refusal(bounds, frame, i, j), "NoTable")
            self.assertEqual(refusal(bounds, frame, len(frame.rows()), 0), "NoCell")
            self.assertEqual(refusal(bounds, frame, 0, len(frame.columns())), "NoCell")
            self.assertEqual(refusal(bounds, frame, -1, 0), "NoCell")


class Own(unittest.TestCase):
    def test_the_frame_stays_and_what_is_told_is_the_askers_own(self):
        frame = Frame([3, 4], [1, 3, 3], [[None, 2, None], [2, None, 2]])
        kept_frame = told(frame)
        answer = bounds(frame, 0, 1)
        kept = copy.deepcopy(answer)
        answer[2][0][0] = 99
        self.assertEqual(answer[3], kept[3])
        answer[3][1].clear()
        answer[2].pop()
        self.assertEqual(bounds(frame, 0, 1), kept)
        self.assertEqual(told(frame), kept_frame)

    def test_both_tables_are_lists_of_their_own_where_they_are_alike(self):
        least, greatest, one, other = bounds(Frame([1], [1]), 0, 0)
        one[0][0] = 99
        self.assertEqual(other, [[1]])

    def test_changing_what_was_handed_in_changes_no_answer(self):
        rows, columns, caps = [2, 3], [1, 4], [[None, None], [None, None]]
        frame = Frame(rows, columns, caps)
        answer = bounds(frame, 0, 0)
        kept = copy.deepcopy(answer)
        rows[0] = columns[0] = caps[0][0] = 0
        self.assertEqual(bounds(frame, 0, 0), kept)
        frame.__init__([1], [1])
        self.assertEqual(answer, kept)


if __name__ == "__main__":
    unittest.main()
