import copy
import unittest

from exacttable.frames import Frame
from exacttable.tables import is_table, joined_frame, joined_table, table_sums
from tests.test_tables import wrong_tables
from tests.things import GREATEST, forms, made_caps, made_table, no_places, refusal, sizes, sums_of, told


def pairs(width):
    """All two unlike columns, in either turn."""
    return [(j, k) for j in range(width) for k in range(width) if j != k]


def by_hand(row, j, k, joined):
    """A row with what is joined at the lesser place, one thing behind another."""
    out = []
    for at, thing in enumerate(row):
        if at == min(j, k):
            out.append(joined)
        elif at != max(j, k):
            out.append(thing)
    return out


class Ordinary(unittest.TestCase):
    def test_put_together_at_the_lesser_place(self):
        for j, k in ((1, 3), (3, 1)):
            self.assertEqual(joined_table([[1, 2, 3, 4, 5], [6, 7, 8, 9, 0]], j, k), [[1, 6, 3, 5], [6, 16, 8, 0]])
            frame = Frame([15, 30], [7, 9, 11, 13, 5], [[1, 2, 3, 4, 5], [None, 7, 8, None, 0]])
            self.assertEqual(told(joined_frame(frame, j, k)),
                             ([15, 30], [7, 22, 11, 5], [[1, 6, 3, 5], [None, None, 8, 0]]))

    def test_all_sizes_and_pairs(self):
        for height, width in sizes():
            table = made_table(height, width)
            rows, columns = sums_of(table)
            caps = made_caps(table)
            frame = Frame(rows, columns, caps)
            for j, k in pairs(width):
                joined = joined_table(table, j, k)
                of_frame = joined_frame(frame, j, k)
                self.assertEqual(joined, [by_hand(row, j, k, row[j] + row[k]) for row in table])
                self.assertEqual(of_frame.rows(), rows)
                self.assertEqual(of_frame.columns(), by_hand(columns, j, k, columns[j] + columns[k]))
                for row, row_caps in zip(caps, of_frame.caps()):
                    both = None if None in (row[j], row[k]) else row[j] + row[k]
                    self.assertEqual(row_caps, by_hand(row, j, k, both))
                self.assertEqual(table_sums(joined), (of_frame.rows(), of_frame.columns()))
                self.assertTrue(is_table(of_frame, joined))

    def test_forms_and_kinds(self):
        for form in forms([[1, 2, 3], [4, 5, 6]]):
            joined = joined_table(form, 2, 0)
            self.assertEqual(joined, [[4, 2], [10, 5]])
            self.assertEqual([type(joined)] + [type(row) for row in joined], [list] * 3)
        self.assertIs(type(joined_frame(Frame((1,), (1, 0)), 0, 1)), Frame)

    def test_a_free_frame_stays_free(self):
        self.assertEqual(told(joined_frame(Frame([1, 2], [3, 0, 0]), 0, 2)), ([1, 2], [3, 0], [[None] * 2] * 2))


class Ends(unittest.TestCase):
    def test_sums_that_come_just_to_the_greatest(self):
        for sums in ([GREATEST, 0], [0, GREATEST], [GREATEST - 1, 1], [GREATEST // 2, GREATEST // 2]):
            self.assertEqual(joined_frame(Frame([5], sums), 0, 1).columns(), [GREATEST])

    def test_sums_that_come_to_one_more(self):
        for sums in ([GREATEST, 1], [1, GREATEST], [GREATEST - 1, 2], [GREATEST, GREATEST]):
            for j, k in pairs(2):
                self.assertEqual(refusal(joined_frame, Frame([5], sums), j, k), "NoColumns")
                self.assertEqual(refusal(joined_frame, Frame([5], sums, [[1, 1]]), j, k), "NoColumns")

    def test_only_the_joined_sums_matter(self):
        frame = Frame([GREATEST] * 3, [GREATEST, 1, 2])
        self.assertEqual(joined_frame(frame, 1, 2).columns(), [GREATEST, 3])

    def test_numbers_that_come_just_to_the_greatest(self):
        for row in ([GREATEST, 0], [0, GREATEST], [GREATEST - 1, 1]):
            self.assertEqual(joined_table([row, row], 1, 0), [[GREATEST], [GREATEST]])
        self.assertEqual(joined_table([[GREATEST - 1, 1]] * 6, 0, 1), [[GREATEST]] * 6)

    def test_numbers_that_come_to_one_more(self):
        for row in ([GREATEST, 1], [1, GREATEST], [GREATEST - 1, 2], [GREATEST, GREATEST]):
            for table in ([row], [[0, 0], row], [row, [0, 0]]):
                self.assertEqual(refusal(joined_table, table, 0, 1), "NoColumns")
        self.assertEqual(joined_table([[GREATEST, 1, 2]], 1, 2), [[GREATEST, 3]])

    def test_caps_at_and_above_the_greatest(self):
        for one, other, both in (
                (GREATEST, 0, GREATEST), (GREATEST - 1, 1, GREATEST), (GREATEST - 1, 0, GREATEST - 1),
                (GREATEST, 1, GREATEST), (GREATEST, GREATEST, GREATEST), (GREATEST - 1, 2, GREATEST),
                (0, 0, 0), (None, 0, None), (None, None, None), (GREATEST, None, None), (0, None, None)):
            for caps in ([[one, other]], [[other, one]]):
                self.assertEqual(joined_frame(Frame([1], [1, 2], caps), 0, 1).caps(), [[both]])

    def test_two_columns_and_six(self):
        self.assertEqual(joined_table([[0, 0]], 0, 1), [[0]])
        self.assertEqual(joined_table([[1, 2, 3, 4, 5, 6]], 5, 0), [[7, 2, 3, 4, 5]])
        self.assertEqual(joined_table([[1, 2, 3, 4, 5, 6]], 4, 5), [[1, 2, 3, 4, 11]])


class Refused(unittest.TestCase):
    def test_what_are_no_columns(self):
        for width in (1, 2, 3, 6):
            table = made_table(2, width)
            frame = Frame(*sums_of(table))
            for thing in no_places(width):
                for j, k in ((thing, 0), (0, thing), (thing, width - 1), (width - 1, thing), (thing, thing)):
                    self.assertEqual(refusal(joined_table, table, j, k), "NoColumns")
                    self.assertEqual(refusal(joined_frame, frame, j, k), "NoColumns")

    def test_columns_that_are_alike(self):
        for width in range(1, 7):
            table = made_table(1, width)
            frame = Frame(*sums_of(table))
            for j in range(width):
                self.assertEqual(refusal(joined_table, table, j, j), "NoColumns")
                self.assertEqual(refusal(joined_frame, frame, j, j), "NoColumns")

    def test_rows_are_no_columns(self):
        self.assertEqual(refusal(joined_table, [[1], [2], [3]], 0, 1), "NoColumns")
        self.assertEqual(refusal(joined_frame, Frame([1, 2, 3], [6]), 0, 1), "NoColumns")

    def test_what_are_no_tables_whatever_the_columns(self):
        for thing in wrong_tables():
            for j, k in ((0, 1), (0, 0), (None, "x"), (-1, 7)):
                self.assertEqual(refusal(joined_table, thing, j, k), "NoTable")

    def test_what_is_refused_changes_nothing(self):
        table = [[GREATEST, 1], [3, 4]]
        frame = Frame([3, 7], [GREATEST, 6], table)
        for j, k in ((0, 1), (1, 1), (0, 2)):
            self.assertEqual(refusal(joined_table, table, j, k), "NoColumns")
            self.assertEqual(refusal(joined_frame, frame, j, k), "NoColumns")
        self.assertEqual(table, [[GREATEST, 1], [3, 4]])
        self.assertEqual(told(frame), ([3, 7], [GREATEST, 6], [[GREATEST, 1], [3, 4]]))


class Own(unittest.TestCase):
    def test_what_is_handed_in_stays_and_may_change(self):
        table = [[1, 2, 3], [4, 5, 6]]
        frame = Frame([6, 15], [5, 7, 9], table)
        joined = joined_table(table, 0, 1)
        of_frame = joined_frame(frame, 0, 1)
        self.assertEqual(table, [[1, 2, 3], [4, 5, 6]])
        self.assertEqual(told(frame), ([6, 15], [5, 7, 9], [[1, 2, 3], [4, 5, 6]]))
        table[0][2] = 99
        frame.__init__([1], [1])
        self.assertEqual(joined, [[3, 3], [9, 6]])
        self.assertEqual(told(of_frame), ([6, 15], [12, 9], [[3, 3], [9, 6]]))

    def test_what_is_told_is_the_askers_own(self):
        table = [[1, 2, 3], [4, 5, 6]]
        frame = Frame([6, 15], [5, 7, 9], table)
        kept = copy.deepcopy(told(frame))
        joined_table(table, 0, 1)[0][1] = 99
        joined_table(table, 0, 1).clear()
        joined_frame(frame, 0, 1).__init__([1], [1])
        self.assertEqual(joined_table(table, 0, 1), [[3, 3], [9, 6]])
        self.assertEqual(told(frame), kept)
        self.assertEqual(told(joined_frame(frame, 0, 1)), ([6, 15], [12, 9], [[3, 3], [9, 6]]))


if __name__ == "__main__":
    unittest.main()
