import copy
import math
import unittest

from exacttable.counts import counted, is_narrow, is_small, number_of, table_at
from exacttable.frames import Frame
from exacttable.order import first_table, following, last_table
from exacttable.tables import is_table
from tests.test_tables import wrong_tables
from tests.things import (
    GREATEST, all_tables, few_frames, forms, no_numbers, refusal, rows_of, short_time, told,
)


def by_rows(frame):
    """How many tables a frame has, row by row, by what is left of the columns."""
    many = {tuple(frame.columns()): 1}
    for total, caps in zip(frame.rows(), frame.caps()):
        after = {}
        for left, ways in many.items():
            for row in rows_of(total, left, caps):
                rest = tuple(most - number for most, number in zip(left, row))
                after[rest] = after.get(rest, 0) + ways
        many = after
    return many.get((0,) * len(frame.columns()), 0)


MILLIONS = Frame([5, 5, 5, 6, 6, 7], [11, 11, 12])
CAPPED = Frame([5, 5, 5, 6, 6, 7], [11, 11, 12], [[4, None, 3]] * 3 + [[None, 5, None]] * 3)


class Small(unittest.TestCase):
    def test_a_product_of_just_2000_and_of_more(self):
        for columns in ([1999], [0, 1999], [1, 999], [4, 4, 4, 15], [1, 1, 1, 1, 4, 24], [9, 9, 19]):
            self.assertEqual(math.prod(total + 1 for total in columns), 2000)
            self.assertIs(is_small(Frame([1], columns)), True)
            for at in range(len(columns)):
                more = columns[:at] + [columns[at] + 1] + columns[at + 1:]
                self.assertIs(is_small(Frame([1], more)), False)
        self.assertIs(is_small(Frame([1], [2000])), False)
        self.assertIs(is_small(Frame([1], [2, 666])), False)
        self.assertIs(is_small(Frame([1], [22, 86])), False)
        self.assertIs(is_small(Frame([1], [GREATEST] * 6)), False)
        self.assertIs(is_small(Frame([1], [0] * 6)), True)

    def test_whatever_rows_and_caps_are(self):
        for rows in ([0], [GREATEST], [GREATEST] * 6, [1, 2, 3]):
            for cap in (None, 0, 5, GREATEST):
                caps = [[cap] * 2 for row in rows]
                self.assertIs(is_small(Frame(rows, [1, 999], caps)), True)
                self.assertIs(is_small(Frame(rows, [1, 1000], caps)), False)


class Narrow(unittest.TestCase):
    def test_500_and_501(self):
        for rows, columns, many in (([23, 26, 27], [34, 42], 500), ([22, 26, 29], [34, 43], 501),
                                    ([24, 24, 28], [34, 42], 499)):
            frame = Frame(rows, columns)
            self.assertEqual(len(all_tables(frame)), many)
            self.assertEqual(counted(frame), many)
            self.assertIs(is_narrow(frame), many <= 500)

    def test_few_tables_but_not_small(self):
        self.assertIs(is_narrow(Frame([1999], [1999])), True)
        self.assertIs(is_narrow(Frame([2000], [2000])), False)
        self.assertIs(is_narrow(Frame([1], [2000])), False)
        self.assertIs(is_narrow(Frame([GREATEST] * 6, [GREATEST] * 6, [[0] * 6] * 6)), False)

    def test_none_and_many(self):
        self.assertIs(is_narrow(Frame([1], [2])), True)
        self.assertIs(is_narrow(Frame([GREATEST] * 6, [1] * 6)), True)
        self.assertIs(is_narrow(Frame([1] * 6, [1] * 6)), False)
        self.assertIs(is_narrow(Frame([1] * 5, [1] * 5)), True)
        with short_time():
            self.assertIs(is_narrow(MILLIONS), False)


class Counted(unittest.TestCase):
    def test_few_frames_against_all_tables(self):
        looked = 0
        for frame in few_frames():
            if is_small(frame):
                looked += 1
                tables = all_tables(frame)
                self.assertEqual(counted(frame), len(tables))
                for number, table in enumerate(tables):
                    self.assertEqual(number_of(frame, table), number)
                    self.assertEqual(table_at(frame, number), table)
                self.assertEqual(refusal(table_at, frame, len(tables)), "NoNumber")
                self.assertEqual(refusal(table_at, frame, -1), "NoNumber")
        self.assertGreater(looked, 100)

    def test_known_counts(self):
        for many in range(1, 7):
            self.assertEqual(counted(Frame([1] * many, [1] * many)), math.factorial(many))
        self.assertEqual([counted(Frame([2] * many, [2] * many)) for many in range(1, 7)],
                         [1, 3, 21, 282, 6210, 202410])
        for total in range(12):
            squares = math.comb(total + 2, 4) + math.comb(total + 3, 4) + math.comb(total + 4, 4)
            self.assertEqual(counted(Frame([total] * 3, [total] * 3)), squares)
        # Orders in which no place stands at itself.
        for many, orders in ((2, 1), (3, 2), (4, 9), (5, 44), (6, 265)):
            caps = [[0 if i == j else None for j in range(many)] for i in range(many)]
            self.assertEqual(counted(Frame([1] * many, [1] * many, caps)), orders)

    def test_millions_in_a_short_time(self):
        with short_time():
            self.assertEqual(counted(MILLIONS), 2699241)
        self.assertEqual(counted(MILLIONS), by_rows(MILLIONS))
        with short_time():
            many = counted(CAPPED)
        self.assertEqual(many, by_rows(CAPPED))
        for rows, columns in (([4, 4, 4, 3, 3, 2], [1, 1, 1, 1, 4, 12]), ([1, 3, 4, 3, 3, 1], [1, 3, 3, 3, 3, 2]),
                              ([14] * 6, [42, 42]), ([334] * 5 + [329], [0, 0, 1999, 0, 0, 0]),
                              ([167] * 4 + [166] * 2, [1, 999])):
            frame = Frame(rows, columns)
            with short_time():
                many = counted(frame)
            self.assertEqual(many, by_rows(frame))

    def test_sums_that_do_not_come_to_the_same(self):
        for rows, columns in (([1], [2]), ([2], [1]), ([GREATEST] * 6, [1] * 6), ([0], [1]), ([1], [0]),
                              ([0, 5], [3, 3]), ([3, 3], [0, 5]), ([3, 3], [7, 0])):
            frame = Frame(rows, columns)
            with short_time():
                self.assertEqual(counted(frame), 0)
                for number in (0, 1, -1, None):
                    self.assertEqual(refusal(table_at, frame, number), "NoNumber")
                self.assertEqual(refusal(number_of, frame, [[1]]), "NoTable")

    def test_at_the_ends(self):
        self.assertEqual(counted(Frame([0], [0])), 1)
        self.assertEqual(counted(Frame([1999], [1999])), 1)
        self.assertEqual(counted(Frame([1999], [1999], [[1998]])), 0)
        self.assertEqual(counted(Frame([1999], [1999], [[1999]])), 1)
        self.assertEqual(counted(Frame([1000, 999], [1999, 0], [[GREATEST, 0], [None, None]])), 1)
        self.assertEqual(counted(Frame([0] * 6, [0] * 6, [[0] * 6] * 6)), 1)
        self.assertEqual(table_at(Frame([0] * 6, [0] * 6), 0), [[0] * 6] * 6)
        self.assertEqual(number_of(Frame([1999], [1999]), [[1999]]), 0)


class NumberAndTable(unittest.TestCase):
    def test_lead_to_each_other_among_millions(self):
        for frame in (MILLIONS, CAPPED):
            many = counted(frame)
            numbers = [0, 1, 2, many // 3, many // 2, many - 2, many - 1] + list(range(7, many, many // 23))
            with short_time(60):
                tables = [table_at(frame, number) for number in numbers]
                self.assertEqual([number_of(frame, table) for table in tables], numbers)
            for table in tables:
                self.assertTrue(is_table(frame, table))
            self.assertEqual(tables[0], first_table(frame))
            self.assertEqual(tables[6], last_table(frame))
            self.assertEqual(following(frame, tables[0]), tables[1])
            self.assertEqual(following(frame, tables[1]), tables[2])
            self.assertEqual(following(frame, tables[5]), tables[6])
            self.assertEqual(sorted(tables[7:]), tables[7:])

    def test_next_has_the_next_number(self):
        table = table_at(MILLIONS, 1234567)
        for number in range(1234567, 1234587):
            self.assertEqual(number_of(MILLIONS, table), number)
            table = following(MILLIONS, table)


class Refused(unittest.TestCase):
    def test_numbers_that_no_table_has(self):
        for frame in (Frame([1, 1], [1, 1]), Frame([0], [0]), Frame([1], [2]), MILLIONS):
            many = counted(frame)
            for thing in no_numbers() + [-1, -many - 1, many, many + 1, 10 ** 59, -(10 ** 59)]:
                self.assertEqual(refusal(table_at, frame, thing), "NoNumber")

    def test_what_is_no_table_of_the_frame(self):
        frame = Frame([2, 2], [2, 2], [[1, None], [None, None]])
        self.assertEqual(number_of(frame, [[1, 1], [1, 1]]), 1)
        for thing in wrong_tables() + [[[2, 0], [0, 2]], [[1, 1], [1, 2]], [[1, 1]], [[1, 1, 0], [1, 1, 0]]]:
            self.assertEqual(refusal(number_of, frame, thing), "NoTable")
        self.assertEqual(refusal(number_of, Frame([1], [2]), [[1]]), "NoTable")
        self.assertEqual(refusal(number_of, Frame([1], [2]), [[2]]), "NoTable")

    def test_too_many_comes_first_of_all(self):
        for frame in (Frame([2000], [2000]), Frame([GREATEST] * 6, [GREATEST] * 6), Frame([1], [1, 1000]),
                      Frame([2000], [2000], [[0]])):
            self.assertEqual(refusal(counted, frame), "TooMany")
            for thing in no_numbers() + [0, 1, -1, 10 ** 59]:
                self.assertEqual(refusal(table_at, frame, thing), "TooMany")
            for thing in wrong_tables() + [[[2000]], [[1]]]:
                self.assertEqual(refusal(number_of, frame, thing), "TooMany")


class Own(unittest.TestCase):
    def test_what_is_handed_in_stays(self):
        frame = Frame([2, 3], [1, 4], [[1, None], [None, 3]])
        kept = told(frame)
        for form in forms([[1, 1], [0, 3]]):
            first = copy.deepcopy(form)
            self.assertEqual(number_of(frame, form), 1)
            self.assertEqual(form, first)
        self.assertEqual((counted(frame), is_small(frame), is_narrow(frame)), (2, True, True))
        self.assertEqual(table_at(frame, 1), [[1, 1], [0, 3]])
        self.assertEqual(told(frame), kept)

    def test_what_is_told_is_the_askers_own(self):
        frame = Frame([2, 3], [1, 4])
        table = table_at(frame, 0)
        self.assertEqual([type(table)] + [type(row) for row in table], [list] * 3)
        table[0][0] = 99
        table.pop()
        self.assertEqual(table_at(frame, 0), [[0, 2], [1, 2]])
        self.assertEqual(counted(frame), 2)

    def test_changing_what_was_handed_in_changes_no_answer(self):
        rows, columns, caps = [2, 3], [1, 4], [[None, None], [None, None]]
        frame = Frame(rows, columns, caps)
        table = table_at(frame, 1)
        rows[0] = columns[0] = caps[0][0] = 0
        self.assertEqual((counted(frame), number_of(frame, table)), (2, 1))
        frame.__init__([1], [1])
        self.assertEqual(table, [[1, 1], [0, 3]])
        self.assertEqual(counted(frame), 1)

    def test_the_same_asked_again_is_answered_alike(self):
        for frame in (MILLIONS, CAPPED, Frame([2, 3], [1, 4])):
            other = Frame(*told(frame))
            self.assertEqual(counted(frame), counted(other))
            self.assertEqual(table_at(frame, 1), table_at(other, 1))


if __name__ == "__main__":
    unittest.main()
