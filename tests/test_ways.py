import copy
import itertools
import random
import unittest

from exacttable.frames import Frame
from exacttable.tables import is_table
from exacttable.ways import distance, led, stepped
from tests.test_tables import wrong_tables
from tests.things import (
    GREATEST, all_tables, apart, chance_pair, few_frames, forms, free_ones, great_frames, great_table, made_table,
    no_lists, no_numbers, no_places, refusal, short_time, sizes, sums_of, told, turned_round,
)


def looked_at(table, step):
    """Whether this is a step of a table, by the test's own look."""
    row, other_row, column, other_column, amount = step
    rows, columns = range(len(table)), range(len(table[0]))
    return (type(step) is tuple and all(type(part) is int for part in step)
            and row in rows and other_row in rows and row != other_row
            and column in columns and other_column in columns and column != other_column
            and 1 <= amount <= table[row][column] and amount <= table[other_row][other_column]
            and table[row][other_column] + amount <= GREATEST and table[other_row][column] + amount <= GREATEST)


def added(table, step):
    """The table behind a step, by the test's own adding."""
    row, other_row, column, other_column, amount = step
    after = [list(numbers) for numbers in table]
    after[row][column] -= amount
    after[other_row][column] += amount
    after[row][other_column] += amount
    after[other_row][other_column] -= amount
    return after


def corners(table):
    """All rows, other rows, columns and other columns of a table's steps."""
    return itertools.product(itertools.permutations(range(len(table)), 2),
                             itertools.permutations(range(len(table[0])), 2))


def some_tables():
    """Tables of all sizes, with numbers to 10 ** 12."""
    tables = []
    for height, width in sizes():
        tables += [made_table(height, width), great_table(height, width)]
        tables.append([[GREATEST if (i + j) % 2 else 0 for j in range(width)] for i in range(height)])
        tables.append([[GREATEST if (i + j) % 2 else 1 for j in range(width)] for i in range(height)])
    return tables


class Steps(unittest.TestCase):
    def test_by_hand(self):
        self.assertEqual(stepped([[3, 0], [0, 4]], (0, 1, 0, 1, 2)), [[1, 2], [2, 2]])
        self.assertEqual(stepped([[1, 0, 2], [0, 3, 1]], (0, 1, 2, 1, 2)), [[1, 2, 0], [0, 1, 3]])
        self.assertEqual(stepped([[1, 0, 2], [0, 3, 1]], (1, 0, 1, 2, 2)), [[1, 2, 0], [0, 1, 3]])

    def test_of_tables_of_all_sizes(self):
        done = 0
        for table in some_tables():
            for (row, other_row), (column, other_column) in corners(table):
                most = min(table[row][column], table[other_row][other_column])
                for amount in sorted({1, 2, most // 2, most - 1, most, most + 1, GREATEST}):
                    step = (row, other_row, column, other_column, amount)
                    if not looked_at(table, step):
                        self.assertEqual(refusal(stepped, table, step), "NoStep")
                        continue
                    done += 1
                    after = stepped(table, step)
                    self.assertEqual(after, added(table, step))
                    self.assertEqual(sums_of(after), sums_of(table))
                    self.assertEqual(stepped(after, (row, other_row, other_column, column, amount)), table)
                    self.assertEqual(stepped(after, (other_row, row, column, other_column, amount)), table)
        self.assertGreater(done, 10000)

    def test_cells_that_come_above_the_greatest_number(self):
        table = [[5, GREATEST - 3], [GREATEST - 4, 6]]
        self.assertEqual(stepped(table, (0, 1, 0, 1, 3)), [[2, GREATEST], [GREATEST - 1, 3]])
        self.assertEqual(refusal(stepped, table, (0, 1, 0, 1, 4)), "NoStep")
        table = [[5, GREATEST - 4], [GREATEST - 3, 6]]
        self.assertEqual(stepped(table, (0, 1, 0, 1, 3)), [[2, GREATEST - 1], [GREATEST, 3]])
        self.assertEqual(refusal(stepped, table, (0, 1, 0, 1, 4)), "NoStep")
        for full in ([[1, GREATEST], [0, 1]], [[1, 0], [GREATEST, 1]], [[GREATEST, GREATEST], [0, GREATEST]]):
            self.assertEqual(refusal(stepped, full, (0, 1, 0, 1, 1)), "NoStep")

    def test_amounts(self):
        table = [[3, 0], [0, 4]]
        for amount in no_numbers() + [0, -1, -3, 4, 5, GREATEST, 10 ** 59, -(10 ** 59), 10 ** 5000]:
            self.assertEqual(refusal(stepped, table, (0, 1, 0, 1, amount)), "NoStep")
        self.assertEqual(refusal(stepped, [[4, 0], [0, 3]], (0, 1, 0, 1, 4)), "NoStep")
        self.assertEqual(stepped(table, (0, 1, 0, 1, 3)), [[0, 3], [3, 1]])
        self.assertEqual(refusal(stepped, [[0, 0], [0, 0]], (0, 1, 0, 1, 0)), "NoStep")

    def test_rows_and_columns_alike_or_not_there(self):
        table = [[9, 9, 9], [9, 9, 9]]
        for step in ((0, 0, 0, 1, 1), (1, 1, 0, 1, 1), (0, 1, 0, 0, 1), (0, 1, 2, 2, 1), (0, 0, 0, 0, 1)):
            self.assertEqual(refusal(stepped, table, step), "NoStep")
        for thing in no_places(2):
            self.assertEqual(refusal(stepped, table, (thing, 1, 0, 1, 1)), "NoStep")
            self.assertEqual(refusal(stepped, table, (0, thing, 0, 1, 1)), "NoStep")
        for thing in no_places(3):
            self.assertEqual(refusal(stepped, table, (0, 1, thing, 1, 1)), "NoStep")
            self.assertEqual(refusal(stepped, table, (0, 1, 0, thing, 1)), "NoStep")
        self.assertEqual(stepped(table, (0, 1, 2, 1, 1)), [[9, 10, 8], [9, 8, 10]])
        for step in itertools.product((0, 1, -1), repeat=5):
            self.assertEqual(refusal(stepped, [[5]], step), "NoStep")
            self.assertEqual(refusal(stepped, [[5, 5]], step), "NoStep")
            self.assertEqual(refusal(stepped, [[5], [5]], step), "NoStep")

    def test_what_is_no_tuple_of_five(self):
        table = [[9, 9], [9, 9]]
        for thing in no_lists() + [[0, 1, 0, 1, 1], (), [], (0,), (0, 1, 0, 1), (0, 1, 0, 1, 1, 1), "01011",
                                   (0, 1, 0, 1, 1, None), ((0, 1, 0, 1, 1),), ((0, 1), (0, 1), 1), b"\0\1\0\1\1",
                                   {0: 0, 1: 1, 2: 0, 3: 1, 4: 1}, range(5)]:
            self.assertEqual(refusal(stepped, table, thing), "NoStep")

    def test_no_table_comes_ahead_of_no_step(self):
        for thing in wrong_tables():
            self.assertEqual(refusal(stepped, thing, (0, 1, 0, 1, 1)), "NoTable")
            self.assertEqual(refusal(stepped, thing, None), "NoTable")


class Distance(unittest.TestCase):
    def test_by_hand(self):
        self.assertEqual(distance([[1, 0, 2], [0, 3, 1]], [[1, 2, 0], [0, 1, 3]]), 8)
        self.assertEqual(distance([[GREATEST, 0], [0, GREATEST]], [[0, GREATEST], [GREATEST, 0]]), 4 * GREATEST)
        self.assertEqual(distance([[0]], [[0]]), 0)

    def test_of_tables_of_all_sizes(self):
        for height, width in sizes():
            for table in (made_table(height, width), great_table(height, width)):
                other = turned_round(table)
                self.assertEqual(sums_of(other), sums_of(table))
                for form, other_form in zip(forms(table), reversed(forms(other))):
                    self.assertEqual(distance(form, other_form), apart(table, other))
                    self.assertEqual(distance(other_form, form), apart(table, other))
                    self.assertEqual(distance(form, table), 0)

    def test_of_a_step_is_four_times_its_amount(self):
        for table in some_tables():
            for (row, other_row), (column, other_column) in corners(table):
                step = (row, other_row, column, other_column, 1)
                if looked_at(table, step):
                    self.assertEqual(distance(table, stepped(table, step)), 4)

    def test_what_is_no_table(self):
        for thing in wrong_tables():
            self.assertEqual(refusal(distance, thing, [[1]]), "NoTable")
            self.assertEqual(refusal(distance, [[1]], thing), "NoTable")

    def test_tables_that_are_not_of_one_frame(self):
        table = [[1, 2], [3, 4]]
        for other in ([[1, 2], [3, 5]], [[2, 1], [3, 4]], [[3, 2], [1, 4]], [[3, 7]], [[1, 2]], [[1], [3]],
                      [[1, 2, 0], [3, 4, 0]], [[1, 2], [3, 4], [0, 0]]):
            self.assertEqual(refusal(distance, table, other), "NoTable")
            self.assertEqual(refusal(distance, other, table), "NoTable")


class Ways(unittest.TestCase):
    def check(self, frame, one, other):
        steps = led(frame, one, other)
        self.assertIs(type(steps), list)
        table = one
        amounts = 0
        for step in steps:
            self.assertEqual((type(step), len(step)), (tuple, 5))
            self.assertTrue(looked_at(table, step))
            after = added(table, step)
            self.assertTrue(is_table(frame, after))
            self.assertLessEqual(apart(after, other) + 2 * step[4], apart(table, other))
            self.assertEqual(stepped(table, step), after)
            table = after
            amounts += step[4]
        self.assertEqual(table, other)
        self.assertLessEqual(2 * amounts, apart(one, other))
        return steps

    def test_all_pairs_of_small_frames(self):
        frames = free_ones(few_frames()) + [Frame([2, 2, 2], [2, 2, 2]), Frame([1] * 4, [1] * 4),
                                            Frame([3, 1, 2], [1, 2, 2, 1]), Frame([4, 4], [3, 3, 2])]
        done = 0
        for frame in frames:
            tables = all_tables(frame)
            if len(tables) <= 70:
                for one, other in itertools.product(tables, repeat=2):
                    self.check(frame, one, other)
                    done += 1
        self.assertGreater(done, 5000)

    def test_none_from_a_table_to_itself(self):
        for frame, table in great_frames():
            if frame.caps() == [[None] * len(table[0])] * len(table):
                self.assertEqual(led(frame, table, table), [])
        self.assertEqual(led(Frame([0], [0]), [[0]], [[0]]), [])

    def test_one_step(self):
        frame = Frame([5, 5], [5, 5])
        self.assertEqual(self.check(frame, [[5, 0], [0, 5]], [[0, 5], [5, 0]])[0][4], 5)
        self.assertEqual(len(led(frame, [[5, 0], [0, 5]], [[0, 5], [5, 0]])), 1)

    def test_great_sums_in_a_short_time(self):
        with short_time():
            for height, width in sizes():
                table = great_table(height, width)
                frame = Frame(*sums_of(table))
                self.check(frame, table, turned_round(table))
                self.check(frame, turned_round(table), table)
            corner = [[GREATEST * (i == j) for j in range(6)] for i in range(6)]
            self.check(Frame([GREATEST] * 6, [GREATEST] * 6), corner, turned_round(corner))
            self.check(Frame([GREATEST] * 6, [GREATEST] * 6), corner, corner[1:] + corner[:1])

    def test_great_tables_by_chance_in_a_short_time(self):
        chance = random.Random(5)
        for height, width in sizes():
            for turn in range(4):
                one, other = chance_pair(chance, height, width)
                with short_time():
                    self.check(Frame(*sums_of(one)), one, other)

    def test_tuples_too(self):
        frame = Frame([3, 4], [1, 3, 3])
        one, other = [[1, 0, 2], [0, 3, 1]], [[0, 3, 0], [1, 0, 3]]
        steps = self.check(frame, one, other)
        for form, other_form in itertools.product(forms(one), forms(other)):
            self.assertEqual(led(frame, form, other_form), steps)


class Refused(unittest.TestCase):
    def test_a_cap_at_one_cell_alone(self):
        for height, width in sizes():
            table = made_table(height, width)
            for i, j in itertools.product(range(height), range(width)):
                for cap in (table[i][j], GREATEST):
                    caps = [[None] * width for row in range(height)]
                    caps[i][j] = cap
                    frame = Frame(*sums_of(table), caps)
                    self.assertEqual(refusal(led, frame, table, table), "Bounded")

    def test_bounded_comes_ahead_of_no_table(self):
        frame = Frame([1, 1], [1, 1], [[None, None], [None, 0]])
        for thing in wrong_tables():
            self.assertEqual(refusal(led, frame, thing, thing), "Bounded")
        self.assertEqual(refusal(led, Frame([1], [2], [[5]]), [[1]], [[2]]), "Bounded")

    def test_what_is_no_table_of_the_frame(self):
        frame = Frame([2, 2], [2, 2])
        table = [[1, 1], [1, 1]]
        for thing in wrong_tables() + [[[2, 0], [1, 1]], [[1, 1], [1, 2]], [[1, 1]], [[1, 1, 0], [1, 1, 0]],
                                       [[1, 1], [1, 1], [0, 0]], [[3, -1], [-1, 3]], [[True, 1], [1, 1]]]:
            self.assertEqual(refusal(led, frame, thing, table), "NoTable")
            self.assertEqual(refusal(led, frame, table, thing), "NoTable")
            self.assertEqual(refusal(led, frame, thing, thing), "NoTable")

    def test_a_frame_without_tables_has_none(self):
        for thing in ([[1]], [[2]], None):
            self.assertEqual(refusal(led, Frame([1], [2]), thing, thing), "NoTable")


class Own(unittest.TestCase):
    def test_what_is_handed_in_stays(self):
        frame = Frame([3, 4], [1, 3, 3])
        kept = told(frame)
        one, other = [[1, 0, 2], [0, 3, 1]], [[0, 3, 0], [1, 0, 3]]
        step = (0, 1, 2, 1, 2)
        stepped(one, step)
        distance(one, other)
        led(frame, one, other)
        refusal(stepped, one, (0, 1, 2, 1, 3))
        refusal(led, frame, one, [[1]])
        self.assertEqual((one, other, step), ([[1, 0, 2], [0, 3, 1]], [[0, 3, 0], [1, 0, 3]], (0, 1, 2, 1, 2)))
        self.assertEqual(told(frame), kept)

    def test_kinds(self):
        for form in forms([[1, 0, 2], [0, 3, 1]]):
            after = stepped(form, (0, 1, 2, 1, 2))
            self.assertEqual(after, [[1, 2, 0], [0, 1, 3]])
            self.assertEqual([type(after)] + [type(row) for row in after], [list] * 3)

    def test_changing_what_was_handed_in_or_told_changes_no_other_answer(self):
        frame = Frame([3, 4], [1, 3, 3])
        one, other = [[1, 0, 2], [0, 3, 1]], [[0, 3, 0], [1, 0, 3]]
        steps, after = led(frame, one, other), stepped(one, (0, 1, 2, 1, 2))
        kept, kept_after = copy.deepcopy(steps), copy.deepcopy(after)
        one[0][0] = other[0][0] = 99
        self.assertEqual((steps, after), (kept, kept_after))
        steps.clear()
        after[0].clear()
        after.pop()
        self.assertEqual(led(frame, [[1, 0, 2], [0, 3, 1]], [[0, 3, 0], [1, 0, 3]]), kept)
        self.assertEqual(stepped([[1, 0, 2], [0, 3, 1]], (0, 1, 2, 1, 2)), kept_after)


if __name__ == "__main__":
    unittest.main()
