"""What is promised over the whole program: that its stages agree with each other."""

import copy
import itertools
import random
import unittest

from exacttable.bounds import bounds
from exacttable.counts import counted, is_small, number_of, table_at
from exacttable.cubes import cubes, faces
from exacttable.desk import Desk
from exacttable.errors import TableError
from exacttable.frames import Frame
from exacttable.one import one_or_none, shows_none
from exacttable.order import first_table, following, last_table, listed
from exacttable.ranks import as_rare, ranked
from exacttable.rings import ringed
from exacttable.shares import score, share, spread
from exacttable.tables import (
    exchanged_frame, exchanged_table, is_table, joined_frame, joined_table, table_sums,
)
from exacttable.tabletexts import read_table, table_text
from exacttable.ways import distance, led, stepped
from exacttable.weights import weight, whole
from tests.things import few_frames, free_ones, narrow_frames, some_kinds, some_scores, told


def sizes_of(frame):
    return len(frame.rows()), len(frame.columns())


def exchanged(rows, order, other):
    return [[rows[i][j] for j in other] for i in order]


def exchanged_kind(kind, order, other):
    return ("factors", exchanged(kind[1], order, other)) if kind[0] == "factors" else kind


def some_orders(frame):
    """Orders of rows and of columns: the rows alone exchanged, the columns alone, and both."""
    height, width = sizes_of(frame)
    rows, columns = list(range(height)), list(range(width))
    return [(rows[::-1], columns), (rows, columns[::-1]), (rows[1:] + rows[:1], columns[::-1]),
            (rows[::-1], columns[-1:] + columns[:-1])]


class Exchanged(unittest.TestCase):
    def test_lists_counts_and_numbers(self):
        for frame, tables in narrow_frames():
            for order, other in some_orders(frame):
                turned = exchanged_frame(frame, order, other)
                turned_tables = listed(turned)
                self.assertEqual(turned_tables, sorted(exchanged_table(table, order, other) for table in tables))
                self.assertEqual(counted(turned), counted(frame))
                for number, table in enumerate(turned_tables):
                    self.assertEqual((number_of(turned, table), table_at(turned, number)), (number, table))

    def test_weights_spreads_and_ranks(self):
        for frame, tables in narrow_frames()[::2]:
            for order, other in some_orders(frame):
                turned = exchanged_frame(frame, order, other)
                for kind, scores in zip(some_kinds(*sizes_of(frame)), itertools.cycle(some_scores(*sizes_of(frame)))):
                    turned_kind, turned_scores = exchanged_kind(kind, order, other), exchanged(scores, order, other)
                    self.assertEqual(whole(turned, turned_kind), whole(frame, kind))
                    self.assertEqual(spread(turned, turned_scores, turned_kind), spread(frame, scores, kind))
                    for table in tables[:3]:
                        moved = exchanged_table(table, order, other)
                        self.assertEqual(weight(turned, moved, turned_kind), weight(frame, table, kind))
                        self.assertEqual(score(moved, turned_scores), score(table, scores))
                        self.assertEqual(ranked(turned, moved, turned_scores, turned_kind),
                                         ranked(frame, table, scores, kind))
                        if whole(frame, kind):
                            self.assertEqual(as_rare(turned, moved, turned_kind), as_rare(frame, table, kind))

    def test_what_cells_can_be(self):
        for frame, tables in narrow_frames():
            for order, other in some_orders(frame)[2:]:
                turned = exchanged_frame(frame, order, other)
                for i, j in itertools.product(range(len(order)), range(len(other))):
                    if tables:
                        self.assertEqual(bounds(turned, i, j)[:2], bounds(frame, order[i], other[j])[:2])


class Joined(unittest.TestCase):
    def test_lists_of_free_frames(self):
        """Each table of the joined frame comes of some table, and each table joined is one of its tables."""
        done = 0
        for frame in free_ones(few_frames()):
            tables = listed(frame)
            for j, k in itertools.permutations(range(len(frame.columns())), 2):
                joined = joined_frame(frame, j, k)
                together = [joined_table(table, j, k) for table in tables]
                self.assertEqual(listed(joined), [table for table, same in itertools.groupby(sorted(together))])
                done += len(tables) > 1
        self.assertGreater(done, 100)

    def test_tables_of_bounded_frames(self):
        for frame, tables in narrow_frames():
            for j, k in itertools.combinations(range(len(frame.columns())), 2):
                joined = joined_frame(frame, j, k)
                for table in tables:
                    self.assertTrue(is_table(joined, joined_table(table, j, k)))

    def test_ways_of_free_frames(self):
        """What a table of the joined frame weighs is what all tables weigh that come to it when joined."""
        done = 0
        for frame, tables in narrow_frames():
            if frame not in free_ones([frame]):
                continue
            for j, k in itertools.combinations(range(len(frame.columns())), 2):
                joined = joined_frame(frame, j, k)
                if is_small(joined):
                    self.assertEqual(whole(joined, ("ways",)), whole(frame, ("ways",)))
                    for table in listed(joined):
                        parts = [weight(frame, one, ("ways",)) for one in tables if joined_table(one, j, k) == table]
                        self.assertEqual(weight(joined, table, ("ways",)), sum(parts))
                        done += 1
        self.assertGreater(done, 200)

    def test_factors_that_are_alike_in_both_columns(self):
        for frame, tables in narrow_frames():
            height, width = sizes_of(frame)
            for j, k in itertools.combinations(range(width), 2):
                joined = joined_frame(frame, j, k)
                factors = [[2 + i + (j if column == k else column) for column in range(width)] for i in range(height)]
                fewer = [row[:k] + row[k + 1:] for row in factors]
                for table in tables:
                    self.assertEqual(weight(joined, joined_table(table, j, k), ("factors", fewer)),
                                     weight(frame, table, ("factors", factors)))


class Agreed(unittest.TestCase):
    def test_one_or_none_and_the_list(self):
        for frame in few_frames():
            answer = one_or_none(frame)
            if answer[0] == "table":
                self.assertIn(answer[1], listed(frame))
                self.assertEqual((first_table(frame), last_table(frame)), (listed(frame)[0], listed(frame)[-1]))
            else:
                self.assertIs(shows_none(frame, answer), True)
                self.assertEqual(listed(frame), [])

    def test_number_and_table_lead_to_each_other(self):
        for frame, tables in narrow_frames():
            self.assertEqual(counted(frame), len(listed(frame)))
            for number, table in enumerate(listed(frame)):
                self.assertEqual(number_of(frame, table), number)
                self.assertEqual(table_at(frame, number), table)
                after = following(frame, table)
                self.assertEqual(after is None, number == counted(frame) - 1)
                if after is not None:
                    self.assertEqual(number_of(frame, after), number + 1)

    def test_ways_go_through_listed_tables_alone(self):
        for frame in free_ones(frame for frame, tables in narrow_frames()):
            tables = listed(frame)
            for one, other in itertools.product(tables[::2], tables[::3]):
                table = one
                for step in led(frame, one, other):
                    after = stepped(table, step)
                    self.assertIn(after, tables)
                    self.assertLessEqual(distance(after, other), distance(table, other) - 2 * step[4])
                    table = after
                self.assertEqual(table, other)

    def test_rings_go_through_listed_tables_alone(self):
        for frame, by_hand in narrow_frames():
            tables = listed(frame)
            for one, other in itertools.product(tables[::2], tables[::3]):
                table = [list(row) for row in one]
                for cells, amount in ringed(frame, one, other):
                    for at, (row, column) in enumerate(cells):
                        table[row][column] += amount if at % 2 else -amount
                    self.assertIn(table, tables)
                self.assertEqual(table, other)

    def test_what_is_told_of_a_cell_is_met_and_never_passed(self):
        for frame, by_hand in narrow_frames():
            tables = listed(frame)
            for i, j in itertools.product(*(range(many) for many in sizes_of(frame))):
                if tables:
                    least, greatest, one, other = bounds(frame, i, j)
                    self.assertIn(one, tables)
                    self.assertIn(other, tables)
                    self.assertEqual((one[i][j], other[i][j]), (least, greatest))
                    for table in tables:
                        self.assertTrue(least <= table[i][j] <= greatest)

    def test_weights_add_up_to_the_whole(self):
        for frame, tables in narrow_frames():
            for kind, scores in zip(some_kinds(*sizes_of(frame)), itertools.cycle(some_scores(*sizes_of(frame)))):
                weights = {number: weight(frame, table, kind) for number, table in enumerate(listed(frame))}
                self.assertEqual(whole(frame, kind), sum(weights.values()))
                self.assertEqual(sum(spread(frame, scores, kind).values()), whole(frame, kind))
                for table in tables[::4]:
                    self.assertEqual(sum(ranked(frame, table, scores, kind)), whole(frame, kind))
                    if whole(frame, kind):
                        less, alike, more = ranked(frame, table, scores, kind)
                        above, below = share(frame, scores, score(table, scores), kind)
                        self.assertEqual(above * whole(frame, kind), below * (alike + more))

    def test_texts_of_listed_tables(self):
        for frame, tables in narrow_frames():
            for table in listed(frame):
                self.assertEqual(read_table(table_text(table)), table)
                self.assertEqual(table_sums(table), (frame.rows(), frame.columns()))

    def test_faces_and_cubes(self):
        chance = random.Random(12)
        for layers, height, width in itertools.product(range(1, 4), repeat=3):
            cube = [[[0] * width for row in range(height)] for layer in range(layers)]
            for turn in range(12):
                cube[chance.randrange(layers)][chance.randrange(height)][chance.randrange(width)] += 1
            found = cubes(*faces(cube))
            self.assertIn(cube, found)
            for one in found:
                self.assertEqual(faces(one), faces(cube))

    def test_a_cube_of_two_layers_is_a_table_within_the_front(self):
        front, side, top = faces([[[1, 2, 0], [0, 1, 1]], [[1, 0, 1], [2, 1, 1]]])
        within = Frame(side[0], top[0], front)
        self.assertEqual([cube[0] for cube in cubes(front, side, top)], listed(within))

    def test_a_desk_tells_what_the_stages_tell(self):
        for frame, tables in narrow_frames():
            desk = Desk()
            sums = [" ".join(str(total) for total in part) for part in (frame.rows(), frame.columns())]
            desk.say("frame " + " / ".join(sums))
            desk.say("caps " + "; ".join(" ".join("-" if cap is None else str(cap) for cap in row)
                                         for row in frame.caps()))
            answers = [desk.say(f"at {number}") for number in range(counted(frame))]
            self.assertEqual(answers, [table_text(table) for table in listed(frame)])
            self.assertEqual(desk.say("count"), str(len(answers)))


class Asked(unittest.TestCase):
    """The same asked of the same is answered alike, and what is handed in stays."""

    def deeds(self, frame, tables):
        height, width = sizes_of(frame)
        first, last = tables[0], tables[-1]
        kind, scores = some_kinds(height, width)[4], some_scores(height, width)[2]
        return [
            (one_or_none, (frame,)), (first_table, (frame,)), (last_table, (frame,)), (following, (frame, first)),
            (listed, (frame,)), (counted, (frame,)), (number_of, (frame, last)), (table_at, (frame, 0)),
            (led, (frame, first, last)), (ringed, (frame, first, last)), (bounds, (frame, 0, 0)),
            (weight, (frame, first, kind)), (whole, (frame, kind)), (spread, (frame, scores, kind)),
            (share, (frame, scores, 0, kind)), (ranked, (frame, last, scores, kind)), (as_rare, (frame, last, kind)),
            (distance, (first, last)), (score, (first, scores)), (table_sums, (first,)), (table_text, (first,)),
        ]

    def answer(self, deed, things):
        try:
            return deed(*things)
        except TableError as refused:
            return type(refused).__name__

    def test_all_deeds_asked_again_in_another_order(self):
        for frame, tables in narrow_frames():
            if tables:
                kept = told(frame)
                deeds = self.deeds(frame, tables)
                handed = copy.deepcopy([things[1:] for deed, things in deeds])
                answers = [copy.deepcopy(self.answer(deed, things)) for deed, things in deeds]
                again = [self.answer(deed, things) for deed, things in reversed(deeds)]
                self.assertEqual(again[::-1], answers)
                self.assertEqual([list(things[1:]) for deed, things in deeds], [list(things) for things in handed])
                self.assertEqual(told(frame), kept)


if __name__ == "__main__":
    unittest.main()
