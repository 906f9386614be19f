import copy
import math
import unittest

from exacttable.counts import counted, is_small
from exacttable.frames import Frame
from exacttable.weights import weight, whole
from tests.test_tables import wrong_tables
from tests.things import (
    GREATEST, all_tables, few_frames, forms, no_kinds, no_rows, refusal, rows_of, short_time, some_kinds, told, weighed,
)

MILLIONS = Frame([5, 5, 5, 6, 6, 7], [11, 11, 12])
CAPPED = Frame([5, 5, 5, 6, 6, 7], [11, 11, 12], [[4, None, 3]] * 3 + [[None, 5, None]] * 3)


def kinds_of(frame):
    return some_kinds(len(frame.rows()), len(frame.columns()))


def whole_by_rows(frame, kind):
    """What all tables weigh, row by row, by what is left of the columns."""
    weights = {tuple(frame.columns()): 1}
    for at, (total, caps) in enumerate(zip(frame.rows(), frame.caps())):
        after = {}
        for left, ahead in weights.items():
            for row in rows_of(total, left, caps):
                rest = tuple(most - number for most, number in zip(left, row))
                if kind[0] == "ways":
                    many = math.prod(math.comb(most, number) for most, number in zip(left, row))
                else:
                    many = weighed([row], ("factors", [kind[1][at]]) if kind[0] == "factors" else kind)
                after[rest] = after.get(rest, 0) + ahead * many
        weights = after
    return weights.get((0,) * len(frame.columns()), 0)


def by_factorials(frame):
    """The whole of "ways" of a free small frame."""
    return math.factorial(sum(frame.rows())) // math.prod(math.factorial(total) for total in frame.rows())


class Weights(unittest.TestCase):
    def test_by_hand(self):
        frame = Frame([3, 4], [1, 3, 3])
        table = [[1, 0, 2], [0, 3, 1]]
        self.assertEqual(weight(frame, table, ("once",)), 1)
        self.assertEqual(weight(frame, table, ("ways",)), 3)
        self.assertEqual(weight(frame, table, ("factors", [[2, 0, 3], [0, 5, 7]])), 2 * 9 * 125 * 7)
        self.assertEqual(weight(frame, table, ("factors", [[0, 1, 1], [1, 1, 1]])), 0)

    def test_0_to_the_power_0_is_1(self):
        self.assertEqual(weight(Frame([0], [0]), [[0]], ("factors", [[0]])), 1)
        self.assertEqual(weight(Frame([1], [1]), [[1]], ("factors", [[0]])), 0)
        self.assertEqual(whole(Frame([0, 0], [0, 0]), ("factors", [[0, 0], [0, 0]])), 1)
        self.assertEqual(weight(Frame([1, 1], [1, 1]), [[0, 1], [1, 0]], ("factors", [[0, 3], [5, 0]])), 15)
        self.assertEqual(weight(Frame([1, 1], [1, 1]), [[1, 0], [0, 1]], ("factors", [[0, 3], [5, 0]])), 0)

    def test_all_tables_of_few_frames(self):
        done = 0
        for frame in few_frames():
            if is_small(frame):
                tables = all_tables(frame)
                for kind in kinds_of(frame):
                    weights = [weight(frame, table, kind) for table in tables]
                    self.assertEqual(weights, [weighed(table, kind) for table in tables])
                    self.assertEqual(whole(frame, kind), sum(weights))
                    done += len(tables)
        self.assertGreater(done, 5000)

    def test_great_columns(self):
        for rows, columns, table in (([1999], [1999], [[1999]]), ([999, 1000], [1999], [[999], [1000]]),
                                     ([1000, 0], [1, 999], [[1, 999], [0, 0]]),
                                     ([400] * 4 + [399], [1999, 0], [[400, 0]] * 4 + [[399, 0]]),
                                     ([600, 400], [999, 1], [[599, 1], [400, 0]])):
            frame = Frame(rows, columns)
            for kind in kinds_of(frame):
                with short_time():
                    self.assertEqual(weight(frame, table, kind), weighed(table, kind))
                    self.assertEqual(whole(frame, kind), whole_by_rows(frame, kind))

    def test_tuples_too(self):
        frame = Frame([3, 4], [1, 3, 3])
        for form in forms([[1, 0, 2], [0, 3, 1]]):
            for factors in forms([[2, 0, 3], [0, 5, 7]]):
                self.assertEqual(weight(frame, form, ("factors", factors)), 15750)
                self.assertEqual(whole(frame, ("factors", factors)), whole(frame, ("factors", [[2, 0, 3], [0, 5, 7]])))

    def test_factors_at_their_ends(self):
        frame = Frame([1, 1], [2])
        self.assertEqual(weight(frame, [[1], [1]], ("factors", [[10 ** 6], [10 ** 6]])), 10 ** 12)
        self.assertEqual(weight(frame, [[1], [1]], ("factors", [[0], [10 ** 6]])), 0)


class Wholes(unittest.TestCase):
    def test_of_ways_of_free_frames_by_factorials(self):
        for rows, columns in (([2, 2, 2], [2, 2, 2]), ([5, 0, 7], [3, 4, 5]), ([1] * 6, [1] * 6), ([0], [0, 0]),
                              ([3, 4], [1, 3, 3]), ([14] * 6, [42, 42]), ([500, 1499], [1999]), ([7, 8, 9], [11, 13]),
                              ([167] * 4 + [166] * 2, [1, 999]), ([1, 3, 4, 3, 3, 1], [1, 3, 3, 3, 3, 2])):
            frame = Frame(rows, columns)
            with short_time():
                self.assertEqual(whole(frame, ("ways",)), by_factorials(frame))

    def test_of_once_is_the_count(self):
        for frame in few_frames() + [MILLIONS, CAPPED]:
            if is_small(frame):
                self.assertEqual(whole(frame, ("once",)), counted(frame))

    def test_millions_of_tables_in_a_short_time(self):
        with short_time():
            self.assertEqual(whole(MILLIONS, ("once",)), 2699241)
            self.assertEqual(whole(MILLIONS, ("ways",)), by_factorials(MILLIONS))
        for frame in (MILLIONS, CAPPED, Frame([3] * 6, [3, 3, 4, 4, 4]), Frame([4, 4, 4, 3, 3, 2], [1, 1, 1, 1, 4, 12]),
                      Frame([1, 3, 4, 3, 3, 1], [1, 3, 3, 3, 3, 2]), Frame([14] * 6, [42, 42])):
            # All of them together, so that to go table by table takes far too long.
            with short_time(10):
                wholes = [whole(frame, kind) for kind in kinds_of(frame)]
            self.assertEqual(wholes, [whole_by_rows(frame, kind) for kind in kinds_of(frame)])

    def test_0_where_there_is_no_table(self):
        for frame in (Frame([1], [2]), Frame([2], [1]), Frame([1, 1], [1, 1], [[0, 0], [None, None]]),
                      Frame([GREATEST] * 6, [1] * 6), Frame([0], [1]), Frame([1999], [1999], [[1998]])):
            for kind in kinds_of(frame):
                with short_time():
                    self.assertEqual(whole(frame, kind), 0)

    def test_factors_of_0_leave_the_tables_without_these_cells(self):
        rows, columns = [3, 4], [1, 3, 3]
        shut = Frame(rows, columns, [[None, 0, None], [None, None, None]])
        kind = ("factors", [[1, 0, 1], [1, 1, 1]])
        self.assertEqual(whole(Frame(rows, columns), kind), counted(shut))


class Refused(unittest.TestCase):
    def test_what_is_no_kind(self):
        for frame, table in ((Frame([3, 4], [1, 3, 3]), [[1, 0, 2], [0, 3, 1]]), (Frame([1], [1]), [[1]]),
                             (Frame([1, 1], [2], [[1], [None]]), [[1], [1]])):
            for thing in no_kinds(len(table), len(table[0])):
                self.assertEqual(refusal(whole, frame, thing), "NoKind")
                self.assertEqual(refusal(weight, frame, table, thing), "NoKind")
        for thing in no_kinds(1, 1):
            self.assertEqual(refusal(whole, Frame([1], [2]), thing), "NoKind")

    def test_factors_for_another_frame(self):
        frame = Frame([3, 4], [1, 3, 3])
        for factors in ([[1, 1], [1, 1], [1, 1]], [[1, 1], [1, 1]], [[1, 1, 1]], [[1]], [[1] * 6] * 6):
            self.assertEqual(refusal(whole, frame, ("factors", factors)), "NoKind")
        for factors in no_rows(2, 3, 0):
            self.assertEqual(refusal(whole, frame, ("factors", factors)), "NoKind")

    def test_what_is_no_table_of_the_frame(self):
        frame = Frame([2, 2], [2, 2], [[1, None], [None, None]])
        for thing in wrong_tables() + [[[2, 0], [0, 2]], [[1, 1], [1, 2]], [[1, 1]], [[1, 1, 0], [1, 1, 0]]]:
            self.assertEqual(refusal(weight, frame, thing, ("once",)), "NoTable")
            self.assertEqual(refusal(weight, frame, thing, None), "NoTable")
        self.assertEqual(refusal(weight, Frame([1], [2]), [[1]], ("ways",)), "NoTable")
        self.assertEqual(refusal(weight, Frame([1], [2]), [[2]], ("way",)), "NoTable")

    def test_too_many_comes_first_of_all(self):
        for frame in (Frame([2000], [2000]), Frame([GREATEST] * 6, [GREATEST] * 6), Frame([1], [1, 1000]),
                      Frame([2000], [2000], [[0]])):
            for kind in kinds_of(frame) + [None, "once", ("factors", None)]:
                self.assertEqual(refusal(whole, frame, kind), "TooMany")
                for thing in ([[2000]], [[1]], None):
                    self.assertEqual(refusal(weight, frame, thing, kind), "TooMany")


class Own(unittest.TestCase):
    def test_what_is_handed_in_stays(self):
        frame = Frame([3, 4], [1, 3, 3], [[None, 2, None], [2, None, 2]])
        kept = told(frame)
        table, kind = [[1, 0, 2], [0, 3, 1]], ("factors", [[2, 0, 3], [0, 5, 7]])
        weight(frame, table, kind)
        whole(frame, kind)
        refusal(weight, frame, table, ("factors", [[2, 0, 3], [0, 5, -7]]))
        self.assertEqual((table, kind), ([[1, 0, 2], [0, 3, 1]], ("factors", [[2, 0, 3], [0, 5, 7]])))
        self.assertEqual(told(frame), kept)

    def test_changing_what_was_handed_in_changes_no_answer(self):
        rows, columns, caps = [3, 4], [1, 3, 3], [[None] * 3, [None] * 3]
        frame = Frame(rows, columns, caps)
        factors = [[2, 1, 3], [4, 5, 7]]
        first = whole(frame, ("factors", factors))
        rows[0] = columns[0] = caps[0][0] = 0
        self.assertEqual(whole(frame, ("factors", copy.deepcopy(factors))), first)
        factors[0][0] = 1
        self.assertNotEqual(whole(frame, ("factors", factors)), first)
        factors[0][0] = 2
        self.assertEqual(whole(frame, ("factors", factors)), first)
        self.assertEqual(whole(frame, ("once",)), counted(frame))


if __name__ == "__main__":
    unittest.main()
