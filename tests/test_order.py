import copy
import unittest

from exacttable.frames import Frame
from exacttable.order import first_table, following, last_table, listed
from exacttable.tables import is_table
from tests.test_tables import wrong_tables
from tests.things import (
    GREATEST, all_tables, few_frames, forms, great_frames, made_table, refusal, short_time, sizes, sums_of, told,
)


def lesser_by_hand(frame):
    """The first table of a free frame, by giving each cell only what the columns behind it can't take."""
    left = frame.columns()
    table = []
    for total in frame.rows():
        row = []
        for j in range(len(left)):
            number = max(0, total - sum(left[j + 1:]))
            row.append(number)
            left[j] -= number
            total -= number
        table.append(row)
    return table


def greater_by_hand(frame):
    """The last table of a free frame, by giving each cell all that its row and its column have left."""
    left = frame.columns()
    table = []
    for total in frame.rows():
        row = []
        for j in range(len(left)):
            number = min(total, left[j])
            row.append(number)
            left[j] -= number
            total -= number
        table.append(row)
    return table


def frames_without_tables():
    return [Frame([1], [2]), Frame([2], [1]), Frame([GREATEST], [GREATEST], [[GREATEST - 1]]),
            Frame([1, 1], [1, 1], [[0, 0], [None, None]]), Frame([GREATEST] * 6, [GREATEST] * 5),
            Frame([1, 1], [2, 0], [[None, None], [0, None]]), Frame([GREATEST] * 6, [GREATEST] * 6, [[7] * 6] * 6)]


class AgainstAll(unittest.TestCase):
    def check(self, frame):
        tables = all_tables(frame)
        self.assertEqual(listed(frame), tables)
        self.assertEqual(first_table(frame), tables[0] if tables else None)
        self.assertEqual(last_table(frame), tables[-1] if tables else None)
        for table, after in zip(tables, tables[1:] + [None]):
            self.assertEqual(following(frame, table), after)

    def test_few_frames(self):
        some = 0
        for frame in few_frames():
            self.check(frame)
            some += bool(all_tables(frame))
        self.assertGreater(some, 50)

    def test_by_hand(self):
        frame = Frame([1, 2], [1, 1, 1])
        self.assertEqual(listed(frame), [[[0, 0, 1], [1, 1, 0]], [[0, 1, 0], [1, 0, 1]], [[1, 0, 0], [0, 1, 1]]])
        self.check(frame)

    def test_cells_that_stay_while_cells_behind_them_change(self):
        self.check(Frame([2, 2, 2], [2, 2, 2]))
        self.check(Frame([2, 2, 2], [2, 2, 2], [[1, 1, 1], [None, 1, None], [1, 1, 1]]))
        self.check(Frame([3, 1, 2], [2, 2, 2], [[0, None, 2], [1, 0, None], [None, 2, 0]]))
        self.check(Frame([1, 1, 1, 1], [1, 1, 1, 1], [[0 if i == j else None for j in range(4)] for i in range(4)]))

    def test_more_rows_and_columns(self):
        shut = [[None if (i + j) % 6 in (0, 1) else 0 for j in range(6)] for i in range(6)]
        self.check(Frame([1] * 6, [1] * 6, shut))
        self.check(Frame([2] * 6, [2] * 6, shut))
        self.check(Frame([1, 2, 0, 1, 0, 1], [2, 3]))
        self.check(Frame([2, 3], [1, 2, 0, 1, 0, 1]))
        self.check(Frame([5], [1, 2, 0, 1, 0, 1]))
        self.check(Frame([1, 2, 0, 1, 0, 1], [5]))

    def test_one_table_alone(self):
        for height, width in sizes():
            table = made_table(height, width)
            frame = Frame(*sums_of(table), table)
            self.assertEqual(listed(frame), [table])
            self.assertEqual((first_table(frame), last_table(frame)), (table, table))
            self.assertIsNone(following(frame, table))


class NoTables(unittest.TestCase):
    def test_where_there_is_none(self):
        for frame in frames_without_tables():
            self.assertIsNone(first_table(frame))
            self.assertIsNone(last_table(frame))
            self.assertEqual(listed(frame), [])

    def test_behind_the_last(self):
        self.assertIsNone(following(Frame([0], [0]), [[0]]))
        self.assertIsNone(following(Frame([GREATEST], [GREATEST]), [[GREATEST]]))
        self.assertIsNone(following(Frame([1, 1], [1, 1]), [[1, 0], [0, 1]]))
        self.assertEqual(following(Frame([1, 1], [1, 1]), [[0, 1], [1, 0]]), [[1, 0], [0, 1]])


class Great(unittest.TestCase):
    def test_first_last_and_next_in_a_short_time(self):
        with short_time(60):
            for frame, table in great_frames():
                first, last = first_table(frame), last_table(frame)
                self.assertTrue(is_table(frame, first) and is_table(frame, last))
                self.assertLessEqual(first, table)
                self.assertLessEqual(table, last)
                self.assertIsNone(following(frame, last))
                after = following(frame, table)
                if table == last:
                    self.assertIsNone(after)
                else:
                    self.assertTrue(is_table(frame, after))
                    self.assertLess(table, after)
                    self.assertLessEqual(after, last)

    def test_free_ones_by_hand(self):
        for frame, table in great_frames():
            if all(cap is None for row in frame.caps() for cap in row):
                self.assertEqual(first_table(frame), lesser_by_hand(frame))
                self.assertEqual(last_table(frame), greater_by_hand(frame))

    def test_next_ones_by_hand(self):
        half = GREATEST // 2
        frame = Frame([GREATEST, GREATEST], [GREATEST, GREATEST])
        with short_time():
            self.assertEqual(following(frame, [[half, half], [half, half]]),
                             [[half + 1, half - 1], [half - 1, half + 1]])
            self.assertEqual(following(frame, [[0, GREATEST], [GREATEST, 0]]),
                             [[1, GREATEST - 1], [GREATEST - 1, 1]])
            wide = Frame([GREATEST, GREATEST], [GREATEST, half, half])
            self.assertEqual(following(wide, [[3, half, half - 3], [GREATEST - 3, 0, 3]]),
                             [[4, half - 4, half], [GREATEST - 4, 4, 0]])

    def test_caps_by_hand(self):
        frame = Frame([GREATEST, GREATEST], [GREATEST, GREATEST], [[None, GREATEST - 5], [None, None]])
        with short_time():
            self.assertEqual(first_table(frame), [[5, GREATEST - 5], [GREATEST - 5, 5]])
            self.assertEqual(last_table(frame), [[GREATEST, 0], [0, GREATEST]])
        frame = Frame([GREATEST, GREATEST], [GREATEST, GREATEST], [[GREATEST - 7, None], [None, GREATEST - 9]])
        self.assertEqual(first_table(frame), [[0, GREATEST], [GREATEST, 0]])
        self.assertEqual(last_table(frame), [[GREATEST - 9, 9], [9, GREATEST - 9]])

    def test_all_of_great_frames_by_what_their_caps_leave_over(self):
        """Caps that leave little over: what each cell has less than its cap is a table of a frame of few."""
        for over in (Frame([4, 3], [2, 1, 4]), Frame([2, 1, 2], [1, 3, 1]), Frame([1, 0, 2, 1], [1, 1, 1, 1]),
                     Frame([1, 0, 2, 0, 1, 0], [0, 1, 1, 0, 1, 1]), Frame([2, 0, 0, 1, 0, 1], [1, 1, 0, 0, 0, 2])):
            rows, columns = over.rows(), over.columns()
            caps = [[GREATEST // 7 + 1000 * i + j * j for j in range(len(columns))] for i in range(len(rows))]
            row_caps, column_caps = sums_of(caps)
            frame = Frame([have - less for have, less in zip(row_caps, rows)],
                          [have - less for have, less in zip(column_caps, columns)], caps)
            tables = [[[cap - less for cap, less in zip(*pair)] for pair in zip(caps, table)]
                      for table in reversed(all_tables(over))]
            self.assertEqual(tables, sorted(tables))
            with short_time():
                self.assertEqual(listed(frame), tables)
                self.assertEqual((first_table(frame), last_table(frame)), (tables[0], tables[-1]))
                for table, after in zip(tables, tables[1:] + [None]):
                    self.assertEqual(following(frame, table), after)


class Listed(unittest.TestCase):
    def test_300_and_301(self):
        frame = Frame([299, 299], [299, 299])
        self.assertEqual(listed(frame), [[[k, 299 - k], [299 - k, k]] for k in range(300)])
        self.assertEqual(refusal(listed, Frame([300, 300], [300, 300])), "TooMany")
        self.assertEqual(len(listed(Frame([18, 22, 23], [24, 39]))), 300)
        self.assertEqual(refusal(listed, Frame([19, 21, 22], [24, 38])), "TooMany")
        self.assertEqual(len(all_tables(Frame([18, 22, 23], [24, 39]))), 300)
        self.assertEqual(len(all_tables(Frame([19, 21, 22], [24, 38]))), 301)

    def test_300_and_301_by_a_cap(self):
        self.assertEqual(len(listed(Frame([GREATEST] * 2, [GREATEST] * 2, [[299, None], [None, None]]))), 300)
        self.assertEqual(refusal(listed, Frame([GREATEST] * 2, [GREATEST] * 2, [[300, None], [None, None]])), "TooMany")

    def test_not_looked_beyond_the_first_that_is_too_many(self):
        with short_time():
            for frame in (Frame([GREATEST] * 6, [GREATEST] * 6), Frame([GREATEST] * 2, [GREATEST] * 2),
                          Frame([1] * 6, [1] * 6), Frame([3] * 6, [3] * 6, [[2] * 6] * 6)):
                self.assertEqual(refusal(listed, frame), "TooMany")


class Refused(unittest.TestCase):
    def test_what_is_no_table(self):
        frame = Frame([1, 1], [1, 1])
        for thing in wrong_tables() + [None]:
            self.assertEqual(refusal(following, frame, thing), "NoTable")
            self.assertEqual(refusal(following, Frame([1], [1]), thing), "NoTable")

    def test_what_is_none_of_the_frame(self):
        frame = Frame([2, 2], [2, 2], [[1, None], [None, None]])
        self.assertEqual(following(frame, [[0, 2], [2, 0]]), [[1, 1], [1, 1]])
        for thing in ([[2, 0], [0, 2]], [[1, 1], [1, 2]], [[0, 2], [1, 1]], [[1, 1]], [[1, 1, 0], [1, 1, 0]], [[4]],
                      [[1, 1], [1, 1], [0, 0]], [[3, -1], [-1, 3]], [[True, 1], [1, 1]]):
            self.assertEqual(refusal(following, frame, thing), "NoTable")

    def test_a_frame_without_tables_has_none(self):
        for frame in frames_without_tables():
            for thing in ([[1]], [[2]], [[0, 1], [1, 0]], [[GREATEST]], None):
                self.assertEqual(refusal(following, frame, thing), "NoTable")


class Own(unittest.TestCase):
    def test_what_is_handed_in_stays(self):
        frame = Frame([2, 3], [1, 4], [[1, None], [None, 3]])
        table = [[0, 2], [1, 2]]
        kept = told(frame)
        self.assertEqual(following(frame, table), [[1, 1], [0, 3]])
        self.assertEqual(table, [[0, 2], [1, 2]])
        first_table(frame), last_table(frame), listed(frame)
        self.assertEqual(told(frame), kept)
        for form in forms(table):
            self.assertEqual(following(frame, form), [[1, 1], [0, 3]])

    def test_kinds(self):
        frame = Frame([2, 3], [1, 4])
        for table in [first_table(frame), last_table(frame), following(frame, ((0, 2), (1, 2)))] + listed(frame):
            self.assertEqual([type(table)] + [type(row) for row in table], [list] * 3)
        self.assertIs(type(listed(frame)), list)

    def test_changing_what_was_told_changes_no_other_answer(self):
        frame = Frame([2, 3], [1, 4])
        tables = listed(frame)
        kept = copy.deepcopy(tables)
        tables[0][0][0] = 99
        self.assertEqual(tables[1:], kept[1:])
        tables[1].clear()
        tables.clear()
        first_table(frame)[0][0] = 99
        last_table(frame).pop()
        following(frame, kept[0])[1].append(5)
        self.assertEqual(listed(frame), kept)
        self.assertEqual((first_table(frame), last_table(frame)), (kept[0], kept[-1]))
        self.assertEqual(following(frame, kept[0]), kept[1])

    def test_changing_what_was_handed_in_changes_no_answer(self):
        rows, columns, caps = [2, 3], [1, 4], [[None, None], [None, None]]
        frame = Frame(rows, columns, caps)
        table = [[0, 2], [1, 2]]
        after = following(frame, table)
        tables = listed(frame)
        rows[0] = columns[0] = caps[0][0] = table[0][0] = 77
        self.assertEqual(listed(frame), tables)
        frame.__init__([1], [1])
        self.assertEqual(after, [[1, 1], [0, 3]])
        self.assertEqual(tables, [[[0, 2], [1, 2]], [[1, 1], [0, 3]]])


if __name__ == "__main__":
    unittest.main()
