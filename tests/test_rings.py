import copy
import itertools
import random
import unittest

from exacttable.frames import Frame
from exacttable.rings import ringed
from exacttable.tables import is_table
from tests.test_tables import wrong_tables
from tests.things import (
    GREATEST, all_tables, chance_pair, few_frames, forms, great_table, refusal, short_time, sizes, sums_of, told,
    turned_round,
)


def gone_round(table, ring):
    """The table behind a ring, by the test's own adding."""
    cells, amount = ring
    after = [list(row) for row in table]
    for at, (row, column) in enumerate(cells):
        after[row][column] += amount if at % 2 else -amount
    return after


def alike(one, other):
    """At how many cells two tables have the same."""
    return sum(number == wanted for numbers in zip(one, other) for number, wanted in zip(*numbers))


def just_caps(one, other):
    """Caps just at the greater number of both at each cell."""
    return [[max(pair) for pair in zip(*rows)] for rows in zip(one, other)]


def shut_caps(one, other):
    """Caps that shut each cell where both have nothing, and bind no other one."""
    return [[None if any(pair) else 0 for pair in zip(*rows)] for rows in zip(one, other)]


class Checked(unittest.TestCase):
    def check_form(self, ring, height, width):
        self.assertEqual((type(ring), len(ring)), (tuple, 2))
        cells, amount = ring
        self.assertIs(type(cells), list)
        self.assertIs(type(amount), int)
        self.assertGreaterEqual(amount, 1)
        for cell in cells:
            self.assertEqual([type(cell)] + [type(place) for place in cell], [tuple, int, int])
            self.assertTrue(0 <= cell[0] < height and 0 <= cell[1] < width)
        self.assertEqual(len(set(cells)), len(cells))
        self.assertGreaterEqual(len(cells), 4)
        self.assertEqual(len(cells) % 2, 0)
        for at, (row, column) in enumerate(cells):
            after = cells[(at + 1) % len(cells)]
            self.assertEqual((row, column)[at % 2], after[at % 2])
        for side in (0, 1):
            places = [cell[side] for cell in cells]
            self.assertLessEqual(max(places.count(place) for place in places), 2)

    def check(self, frame, one, other):
        rings = ringed(frame, one, other)
        self.assertIs(type(rings), list)
        height, width = len(one), len(one[0])
        table = one
        for ring in rings:
            self.check_form(ring, height, width)
            after = gone_round(table, ring)
            self.assertTrue(is_table(frame, after))
            for i, j in itertools.product(range(height), range(width)):
                self.assertTrue(table[i][j] <= after[i][j] <= other[i][j] or other[i][j] <= after[i][j] <= table[i][j])
            self.assertGreater(alike(after, other), alike(table, other))
            table = after
        self.assertEqual(table, other)
        self.assertLessEqual(len(rings), height * width - alike(one, other))
        return rings


class Rings(Checked):
    def test_by_hand(self):
        frame = Frame([5, 5], [5, 5])
        (cells, amount), = self.check(frame, [[5, 0], [0, 5]], [[1, 4], [4, 1]])
        self.assertEqual((sorted(cells), amount), ([(0, 0), (0, 1), (1, 0), (1, 1)], 4))
        shut = [[None, None, 0], [0, None, None], [None, 0, None]]
        (cells, amount), = self.check(Frame([2] * 3, [2] * 3, shut), [[2, 0, 0], [0, 2, 0], [0, 0, 2]],
                                      [[0, 2, 0], [0, 0, 2], [2, 0, 0]])
        self.assertEqual((len(cells), amount), (6, 2))

    def test_all_pairs_of_small_frames(self):
        done = capped = 0
        slant = [[0 if i == j else 1 for j in range(4)] for i in range(4)]
        for frame in few_frames() + [Frame([2, 2, 2], [2, 2, 2]), Frame([1] * 4, [1] * 4),
                                     Frame([3, 1, 2], [1, 2, 2, 1], [[None, 1, 1, None]] * 3),
                                     Frame([2, 3, 2], [2, 2, 3], [[None, 1, 2], [1, 2, 2], [2, None, 1]]),
                                     Frame([2] * 4, [2] * 4, slant),
                                     Frame([4, 4, 4], [4, 4, 4], [[2, None, 2], [None, 0, None], [2, None, 2]])]:
            tables = all_tables(frame)
            if len(tables) <= 70:
                for one, other in itertools.product(tables, repeat=2):
                    self.check(frame, one, other)
                    done += 1
                    capped += any(cap is not None for row in frame.caps() for cap in row)
        self.assertGreater(done, 5000)
        self.assertGreater(capped, 900)

    def test_a_long_ring_of_six_rows_and_columns(self):
        shut = [[None if (i - j) % 6 in (0, 1) else 0 for j in range(6)] for i in range(6)]
        one = [[GREATEST if i == j else 0 for j in range(6)] for i in range(6)]
        other = [[GREATEST if (i - j) % 6 == 1 else 0 for j in range(6)] for i in range(6)]
        frame = Frame([GREATEST] * 6, [GREATEST] * 6, shut)
        (cells, amount), = self.check(frame, one, other)
        self.assertEqual((len(cells), amount), (12, GREATEST))
        self.check(frame, other, one)

    def test_great_sums_in_a_short_time(self):
        with short_time():
            for height, width in sizes():
                one = great_table(height, width)
                other = turned_round(one)
                for caps in (None, just_caps(one, other), shut_caps(one, other), [[GREATEST] * width] * height):
                    frame = Frame(*sums_of(one), caps)
                    self.check(frame, one, other)
                    self.check(frame, other, one)

    def test_great_tables_by_chance_in_a_short_time(self):
        chance = random.Random(6)
        for height, width in sizes():
            for turn in range(4):
                one, other = chance_pair(chance, height, width)
                with short_time():
                    for caps in (None, just_caps(one, other), shut_caps(one, other)):
                        self.check(Frame(*sums_of(one), caps), one, other)

    def test_none_from_a_table_to_itself(self):
        for height, width in sizes():
            table = great_table(height, width)
            for caps in (None, table):
                self.assertEqual(ringed(Frame(*sums_of(table), caps), table, table), [])

    def test_tuples_too(self):
        frame = Frame([3, 4], [1, 3, 3])
        one, other = [[1, 0, 2], [0, 3, 1]], [[0, 3, 0], [1, 0, 3]]
        rings = self.check(frame, one, other)
        for form, other_form in itertools.product(forms(one), forms(other)):
            self.assertEqual(ringed(frame, form, other_form), rings)


class Refused(unittest.TestCase):
    def test_what_is_no_table_of_the_frame(self):
        frame = Frame([2, 2], [2, 2], [[1, None], [None, None]])
        table = [[1, 1], [1, 1]]
        for thing in wrong_tables() + [[[2, 0], [0, 2]], [[1, 1], [1, 2]], [[1, 1]], [[1, 1, 0], [1, 1, 0]],
                                       [[1, 1], [1, 1], [0, 0]], [[3, -1], [-1, 3]], [[True, 1], [1, 1]]]:
            self.assertEqual(refusal(ringed, frame, thing, table), "NoTable")
            self.assertEqual(refusal(ringed, frame, table, thing), "NoTable")
            self.assertEqual(refusal(ringed, frame, thing, thing), "NoTable")

    def test_a_frame_without_tables_has_none(self):
        for frame in (Frame([1], [2]), Frame([1, 1], [1, 1], [[0, 0], [None, None]])):
            for thing in ([[1]], [[2]], [[0, 1], [1, 0]], None):
                self.assertEqual(refusal(ringed, frame, thing, thing), "NoTable")


class Own(unittest.TestCase):
    def test_what_is_handed_in_stays_and_what_is_told_is_the_askers_own(self):
        frame = Frame([3, 4], [1, 3, 3], [[None, 3, 2], [1, None, 3]])
        kept_frame = told(frame)
        one, other = [[1, 0, 2], [0, 3, 1]], [[0, 3, 0], [1, 0, 3]]
        rings = ringed(frame, one, other)
        kept = copy.deepcopy(rings)
        refusal(ringed, frame, one, [[1]])
        self.assertEqual((one, other), ([[1, 0, 2], [0, 3, 1]], [[0, 3, 0], [1, 0, 3]]))
        self.assertEqual(told(frame), kept_frame)
        one[0][0] = other[0][0] = 99
        self.assertEqual(rings, kept)
        rings[0][0].clear()
        self.assertEqual(rings[1:], kept[1:])
        rings.clear()
        self.assertEqual(ringed(frame, [[1, 0, 2], [0, 3, 1]], [[0, 3, 0], [1, 0, 3]]), kept)


if __name__ == "__main__":
    unittest.main()
