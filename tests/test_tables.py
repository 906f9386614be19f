import copy
import itertools
import unittest

from exacttable.frames import Frame
from exacttable.tables import is_table, table_sums
from tests.things import (
    GREATEST, endless_list, forms, made_caps, made_table, no_counts, no_lists, refusal, sizes, sums_of,
)


def wrong_tables():
    """Things that are no tables."""
    wrong = no_lists() + [[], (), [[]], ((),), [[], []], endless_list(), [1, 2], [[1], 2], [[[1]]], [["1"]]]
    wrong += [[[1]] * 7, ((1,),) * 7, [[1] * 7], [[1]] * 1000, [[1] * 1000], [[1, 2], [3]], [[1], [2, 3]]]
    wrong += [[[1, 2], []], [[1, 2], [3, 4], [5]], [[1, 2], [3, 4, 5]], ((1, 2), (3,))]
    wrong += [[[1], row] for row in no_lists()]
    for thing in no_counts():
        wrong += [[[thing]], ((thing,),), [[1, thing]], [[1], [thing]], [[1, 1], [1, thing]], [[thing, 1], [1, 1]]]
    return wrong


class Sums(unittest.TestCase):
    def test_of_ordinary_tables(self):
        self.assertEqual(table_sums([[1, 0, 2], [0, 3, 1]]), ([3, 4], [1, 3, 3]))
        for height, width in sizes():
            table = made_table(height, width)
            for form in forms(table):
                told = table_sums(form)
                self.assertEqual(told, sums_of(table))
                self.assertEqual([type(told), type(told[0]), type(told[1])], [tuple, list, list])

    def test_at_the_ends(self):
        self.assertEqual(table_sums([[0]]), ([0], [0]))
        self.assertEqual(table_sums([[GREATEST]]), ([GREATEST], [GREATEST]))
        self.assertEqual(table_sums([[GREATEST] * 6] * 6), ([6 * GREATEST] * 6, [6 * GREATEST] * 6))

    def test_what_is_no_table(self):
        for thing in wrong_tables():
            self.assertEqual(refusal(table_sums, thing), "NoTable")

    def test_table_stays_and_sums_are_the_askers_own(self):
        table = [[1, 2], [3, 4]]
        told = table_sums(table)
        told[0].append(9)
        told[1][0] = 9
        self.assertEqual(table_sums(table), ([3, 7], [4, 6]))
        self.assertEqual(table, [[1, 2], [3, 4]])


class OfAFrame(unittest.TestCase):
    def test_tables_of_their_own_sums(self):
        for height, width in sizes():
            table = made_table(height, width)
            rows, columns = sums_of(table)
            for frame in (Frame(rows, columns), Frame(rows, columns, table), Frame(rows, columns, made_caps(table))):
                for form in forms(table):
                    self.assertIs(is_table(frame, form), True)

    def test_one_cell_other(self):
        for height, width in sizes():
            table = made_table(height, width)
            frame = Frame(*sums_of(table))
            for i in range(height):
                for j in range(width):
                    other = copy.deepcopy(table)
                    other[i][j] += 1
                    self.assertIs(is_table(frame, other), False)

    def test_row_sums_alone_or_column_sums_alone_are_not_enough(self):
        frame = Frame([3, 3], [2, 4])
        self.assertIs(is_table(frame, [[1, 2], [1, 2]]), True)
        self.assertIs(is_table(frame, [[2, 1], [1, 2]]), False)
        self.assertIs(is_table(frame, [[2, 2], [0, 2]]), False)

    def test_one_cap_one_less(self):
        for height, width in sizes():
            table = made_table(height, width)
            for i in range(height):
                for j in range(width):
                    caps = [[None] * width for place in range(height)]
                    caps[i][j] = table[i][j]
                    self.assertIs(is_table(Frame(*sums_of(table), caps), table), True)
                    if table[i][j] > 0:
                        caps[i][j] -= 1
                        self.assertIs(is_table(Frame(*sums_of(table), caps), table), False)

    def test_shut_cells(self):
        frame = Frame([1, 1], [1, 1], [[0, None], [None, 0]])
        self.assertIs(is_table(frame, [[0, 1], [1, 0]]), True)
        self.assertIs(is_table(frame, [[1, 0], [0, 1]]), False)

    def test_all_small_ones_are_told_apart(self):
        frame = Frame([2, 3], [1, 2, 2], [[None, 1, None], [0, None, 2]])
        found = []
        for numbers in itertools.product(range(4), repeat=6):
            if is_table(frame, [numbers[:3], numbers[3:]]):
                found.append(numbers)
        self.assertEqual(found, [(1, 0, 1, 0, 2, 1), (1, 1, 0, 0, 1, 2)])

    def test_at_the_ends(self):
        self.assertIs(is_table(Frame([0], [0]), [[0]]), True)
        self.assertIs(is_table(Frame([0], [0], [[0]]), [[0]]), True)
        self.assertIs(is_table(Frame([GREATEST], [GREATEST]), [[GREATEST]]), True)
        self.assertIs(is_table(Frame([GREATEST], [GREATEST], [[GREATEST]]), [[GREATEST]]), True)
        self.assertIs(is_table(Frame([GREATEST], [GREATEST], [[GREATEST - 1]]), [[GREATEST]]), False)
        self.assertIs(is_table(Frame([GREATEST], [0]), [[GREATEST]]), False)
        self.assertIs(is_table(Frame([GREATEST] * 6, [GREATEST] * 6),
                               [[GREATEST * (i == j) for j in range(6)] for i in range(6)]), True)

    def test_other_numbers_of_rows_and_columns(self):
        self.assertIs(is_table(Frame([0, 0], [0]), [[0]]), False)
        self.assertIs(is_table(Frame([0], [0, 0]), [[0]]), False)
        self.assertIs(is_table(Frame([0], [0]), [[0], [0]]), False)
        self.assertIs(is_table(Frame([0], [0]), [[0, 0]]), False)
        self.assertIs(is_table(Frame([1, 0, 0], [1, 0]), [[1, 0, 0], [0, 0, 0]]), False)

    def test_a_frame_without_tables_has_none(self):
        frame = Frame([1], [2])
        for thing in ([[1]], [[2]], [[0]], [[3]]):
            self.assertIs(is_table(frame, thing), False)

    def test_of_anything(self):
        for frame in (Frame([1], [1]), Frame([0], [0]), Frame([2, 2], [2, 2]), Frame([0], [0], [[0]])):
            for thing in wrong_tables():
                self.assertIs(is_table(frame, thing), False)

    def test_true_and_false_are_no_numbers(self):
        self.assertIs(is_table(Frame([1], [1]), [[True]]), False)
        self.assertIs(is_table(Frame([0], [0]), [[False]]), False)

    def test_numbers_below_0_and_unlike_rows_that_add_up(self):
        self.assertIs(is_table(Frame([1, 1], [1, 1]), [[2, -1], [-1, 2]]), False)
        self.assertIs(is_table(Frame([1, 1], [2, 0]), [[1, 0], [1]]), False)
        self.assertIs(is_table(Frame([1, 1], [2]), [[1, 0], [1]]), False)

    def test_what_is_handed_in_stays_and_nothing_is_kept(self):
        rows, columns, caps, table = [3, 3], [2, 4], [[1, None], [1, 2]], [[1, 2], [1, 2]]
        frame = Frame(rows, columns, caps)
        self.assertIs(is_table(frame, table), True)
        self.assertEqual((rows, columns, caps, table), ([3, 3], [2, 4], [[1, None], [1, 2]], [[1, 2], [1, 2]]))
        caps[1][1] = 0
        rows[0] = columns[0] = 0
        frame.caps()[1][1] = 0
        self.assertIs(is_table(frame, table), True)
        table[0][0] = 0
        self.assertIs(is_table(frame, table), False)


if __name__ == "__main__":
    unittest.main()
