import copy
import unittest

from exacttable.frames import Frame
from tests.things import (
    GREATEST, Hostile, endless_list, forms, made_caps, made_table, no_counts, no_lists, no_places, refusal, sizes,
    sums_of,
)


class Ordinary(unittest.TestCase):
    def test_sums_and_caps_are_told_as_handed_in(self):
        for height, width in sizes():
            table = made_table(height, width)
            rows, columns = sums_of(table)
            caps = made_caps(table)
            frame = Frame(rows, columns, caps)
            self.assertEqual(frame.rows(), rows)
            self.assertEqual(frame.columns(), columns)
            self.assertEqual(frame.caps(), caps)
            for i in range(height):
                for j in range(width):
                    self.assertEqual(frame.cap(i, j), caps[i][j])

    def test_sums_need_not_come_to_one_total(self):
        frame = Frame([1, 2], [50, 0, 7])
        self.assertEqual(frame.rows(), [1, 2])
        self.assertEqual(frame.columns(), [50, 0, 7])

    def test_without_caps_no_cell_is_bound(self):
        for height, width in sizes():
            for frame in (Frame([1] * height, [2] * width), Frame([1] * height, [2] * width, None),
                          Frame([1] * height, [2] * width, caps=None)):
                self.assertEqual(frame.caps(), [[None] * width for place in range(height)])
                self.assertIsNone(frame.cap(height - 1, width - 1))

    def test_caps_are_handed_in_by_name_too(self):
        self.assertEqual(Frame([3], [1, 2], caps=[[1, None]]).caps(), [[1, None]])

    def test_tuples_are_lists_and_lists_are_told(self):
        caps = [[1, None, 3], [None, 0, 6]]
        for form in forms(caps):
            for rows in ([4, 5], (4, 5)):
                for columns in ([1, 2, 6], (1, 2, 6)):
                    frame = Frame(rows, columns, form)
                    told = [frame.rows(), frame.columns(), frame.caps(), *frame.caps()]
                    self.assertEqual([type(one) for one in told], [list] * 5)
                    self.assertEqual(told, [[4, 5], [1, 2, 6], caps, *caps])

    def test_methods_stand_in_the_class_itself(self):
        for name in ("rows", "columns", "caps", "cap"):
            self.assertIn(name, vars(Frame))


class Ends(unittest.TestCase):
    def test_the_least_and_the_greatest_numbers(self):
        frame = Frame([0, GREATEST], [GREATEST, 0], [[0, GREATEST], [GREATEST, None]])
        self.assertEqual(frame.rows(), [0, GREATEST])
        self.assertEqual(frame.columns(), [GREATEST, 0])
        self.assertEqual(frame.caps(), [[0, GREATEST], [GREATEST, None]])
        self.assertEqual(frame.cap(0, 0), 0)
        self.assertIsNotNone(frame.cap(0, 0))
        self.assertIsNone(frame.cap(1, 1))

    def test_one_and_six(self):
        self.assertEqual(Frame([0], [0], [[0]]).caps(), [[0]])
        many = Frame([1, 2, 3, 4, 5, 6], [6, 5, 4, 3, 2, 1], [[GREATEST] * 6] * 6)
        self.assertEqual(many.rows(), [1, 2, 3, 4, 5, 6])
        self.assertEqual(many.columns(), [6, 5, 4, 3, 2, 1])
        self.assertEqual(many.caps(), [[GREATEST] * 6] * 6)


def wrong_sums():
    wrong = no_lists() + [[], (), [1] * 7, (1,) * 7, [1] * 1000, endless_list(), [[1]], [[1], [1]], ["1"]]
    for thing in no_counts():
        wrong += [[thing], (thing,), [1, thing], [thing, 1], [1, 1, 1, 1, 1, thing]]
    return wrong


def wrong_caps():
    """Things that are no caps for two rows and three columns."""
    good = [1, None, 0]
    wrong = [thing for thing in no_lists() if thing is not None]
    wrong += [[], (), [good], [good] * 3, [good] * 7, endless_list(), [endless_list()] * 2, good, [None, None]]
    for row in no_lists() + [[], [1], [1, 2], [1, 2, 3, 4], [1] * 7, endless_list(), [good] * 3]:
        wrong += [[good, row], [row, good], (tuple(good), row)]
    for thing in no_counts():
        if thing is not None:
            wrong += [[good, [1, thing, 2]], [[thing, None, None], good], ((None, None, thing), tuple(good))]
    return wrong


class Refused(unittest.TestCase):
    def test_what_are_no_row_sums(self):
        for thing in wrong_sums():
            self.assertEqual(refusal(Frame, thing, [1, 2]), "NoSums")

    def test_what_are_no_column_sums(self):
        for thing in wrong_sums():
            self.assertEqual(refusal(Frame, [1, 2], thing), "NoSums")

    def test_what_are_no_caps(self):
        for thing in wrong_caps():
            self.assertEqual(refusal(Frame, [1, 2], [3, 0, 0], thing), "NoCaps")

    def test_caps_of_rows_and_columns_exchanged(self):
        self.assertEqual(refusal(Frame, [1, 2], [1, 1, 1], [[1, 1], [1, 1], [1, 1]]), "NoCaps")

    def test_caps_come_behind_sums(self):
        for thing in ([], 5, [[1]], [[True, 1]], [[1, 1]]):
            self.assertEqual(refusal(Frame, [-1], [1, 1], thing), "NoSums")
            self.assertEqual(refusal(Frame, [1], [], thing), "NoSums")
            self.assertEqual(refusal(Frame, None, None, thing), "NoSums")

    def test_what_is_no_cell(self):
        frame = Frame([1, 2], [1, 1, 1], [[0, 1, 2], [3, 4, 5]])
        for thing in no_places(2):
            self.assertEqual(refusal(frame.cap, thing, 0), "NoCell")
            self.assertEqual(refusal(frame.cap, thing, 3), "NoCell")
        for thing in no_places(3):
            self.assertEqual(refusal(frame.cap, 0, thing), "NoCell")
            self.assertEqual(refusal(frame.cap, thing, thing), "NoCell")
        self.assertEqual(frame.cap(1, 2), 5)
        self.assertEqual(refusal(frame.cap, 2, 1), "NoCell")

    def test_no_cell_is_refused_where_no_cell_is_bound_too(self):
        frame = Frame([1], [1])
        for row, column in ((1, 0), (0, 1), (-1, 0), (0, -1), (False, 0), (0, False), (None, None)):
            self.assertEqual(refusal(frame.cap, row, column), "NoCell")

    def test_a_refused_deed_changes_nothing(self):
        frame = Frame([1, 2], [3, 0], [[1, 2], [None, 0]])
        for things in (([5], [7], 3), ([5], []), ([], [5]), ([5, 5], [5, 5], [[1, 2], [3]])):
            with self.assertRaises(ValueError):
                frame.__init__(*things)
        self.assertEqual(refusal(frame.cap, 2, 2), "NoCell")
        self.assertEqual((frame.rows(), frame.columns()), ([1, 2], [3, 0]))
        self.assertEqual(frame.caps(), [[1, 2], [None, 0]])

    def test_what_is_refused_stays_as_it_was(self):
        rows, columns, caps = [1, True], [2, -3], [[4, None], ["5"]]
        for things in ((rows, [1]), ([1], columns), ([1, 2], [3, 4], caps)):
            kept = copy.deepcopy(things)
            with self.assertRaises(ValueError):
                Frame(*things)
            self.assertEqual(repr(things), repr(kept))

    def test_hostile_things_are_refused_unasked(self):
        self.assertEqual(refusal(Frame, Hostile(), Hostile(), Hostile()), "NoSums")
        self.assertEqual(refusal(Frame, [1], [1], [[Hostile()]]), "NoCaps")


class Own(unittest.TestCase):
    def setUp(self):
        self.rows, self.columns, self.caps = [4, 5], [1, 2, 6], [[1, None, 3], [None, 0, 6]]
        self.frame = Frame(self.rows, self.columns, self.caps)

    def check(self):
        self.assertEqual(self.frame.rows(), [4, 5])
        self.assertEqual(self.frame.columns(), [1, 2, 6])
        self.assertEqual(self.frame.caps(), [[1, None, 3], [None, 0, 6]])
        self.assertEqual([self.frame.cap(0, j) for j in range(3)], [1, None, 3])

    def test_what_is_handed_in_stays(self):
        self.check()
        self.assertEqual(self.rows, [4, 5])
        self.assertEqual(self.columns, [1, 2, 6])
        self.assertEqual(self.caps, [[1, None, 3], [None, 0, 6]])

    def test_what_is_handed_in_may_change_later(self):
        self.rows[0] = 99
        self.columns.append(3)
        self.caps[0][0] = 7
        self.caps[1].clear()
        self.caps.pop()
        self.check()

    def test_lists_within_tuples_may_change_later(self):
        row = [1, None, 3]
        self.frame = Frame((4, 5), (1, 2, 6), (row, (None, 0, 6)))
        row[1] = 9
        self.check()

    def test_what_is_told_is_the_askers_own(self):
        self.frame.rows()[0] = 99
        self.frame.columns().clear()
        told = self.frame.caps()
        told[0][0] = 99
        told[1] = []
        self.check()

    def test_rows_of_no_caps_are_not_one_row(self):
        frame = Frame([1, 1], [1, 1])
        told = frame.caps()
        told[0][0] = 5
        self.assertEqual(told, [[5, None], [None, None]])
        self.assertEqual(frame.caps(), [[None, None], [None, None]])


if __name__ == "__main__":
    unittest.main()
