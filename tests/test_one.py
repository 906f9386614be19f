import copy
import itertools
import unittest

from exacttable.frames import Frame
from exacttable.one import one_or_none, shows_none
from exacttable.tables import is_table
from tests.things import (
    GREATEST, Hostile, all_tables, endless_list, few_frames, great_frames, great_table, made_table, no_lists,
    no_places, short_time, sizes, sums_of, told,
)


def some_of(many):
    """All rising lists of some of so many places."""
    return [list(places) for length in range(many + 1) for places in itertools.combinations(range(many), length)]


def adds_up(frame, word, some, others):
    """Whether a paper shows that there is no table, by adding cell by cell."""
    asked = held = 0
    sums, other_sums = (frame.rows(), frame.columns()) if word == "rows" else (frame.columns(), frame.rows())
    for at in some:
        asked += sums[at]
        for beside in range(len(other_sums)):
            if beside in others:
                continue
            cap = frame.cap(at, beside) if word == "rows" else frame.cap(beside, at)
            if cap is None:
                return False
            held += cap
    for beside in others:
        held += other_sums[beside]
    return asked > held


def with_one(caps, i, j, cap):
    """Caps with another one at one cell."""
    caps = copy.deepcopy(caps)
    caps[i][j] = cap
    return caps


class One(unittest.TestCase):
    def check_table(self, frame):
        """A told table is one of the frame, and no paper can be."""
        answer = one_or_none(frame)
        self.assertIs(type(answer), tuple)
        self.assertEqual((len(answer), answer[0]), (2, "table"), told(frame))
        self.assertTrue(is_table(frame, answer[1]), told(frame))
        self.assertEqual({type(answer[1])} | {type(row) for row in answer[1]}, {list})
        self.assertEqual(len({id(row) for row in answer[1]}), len(frame.rows()))

    def check_paper(self, frame):
        """A told paper shows by its own adding that there is no table."""
        answer = one_or_none(frame)
        self.assertIs(type(answer), tuple)
        self.assertEqual(len(answer), 3, told(frame))
        word, some, others = answer
        self.assertIn(word, ("rows", "columns"))
        height, width = len(frame.rows()), len(frame.columns())
        many, other_many = (height, width) if word == "rows" else (width, height)
        self.assertEqual([type(some), type(others)], [list, list])
        self.assertEqual(some, [place for place in range(many) if place in some])
        self.assertEqual(others, [place for place in range(other_many) if place in others])
        self.assertTrue(adds_up(frame, word, some, others), told(frame))
        self.assertIs(shows_none(frame, answer), True)

    def test_few_frames_against_all_tables(self):
        for frame in few_frames():
            if all_tables(frame):
                self.check_table(frame)
            else:
                self.check_paper(frame)

    def test_all_frames_of_two_by_two_with_little_sums_and_caps(self):
        for a, b, c, d in itertools.product(range(3), repeat=4):
            for caps in itertools.product((None, 0, 1), repeat=4):
                frame = Frame([a, b], [c, d], [caps[:2], caps[2:]])
                if all_tables(frame):
                    self.check_table(frame)
                else:
                    self.check_paper(frame)

    def test_all_sizes_with_tables(self):
        for height, width in sizes():
            for table in (made_table(height, width), great_table(height, width), [[0] * width] * height):
                rows, columns = sums_of(table)
                just = [list(row) for row in table]
                self.check_table(Frame(rows, columns))
                self.check_table(Frame(rows, columns, just))
                self.assertEqual(one_or_none(Frame(rows, columns, just))[1], just)
                self.check_table(Frame(rows, columns, [[GREATEST] * width] * height))
                for i in range(height):
                    for j in range(width):
                        self.check_table(Frame(rows, columns, with_one(just, i, j, None)))

    def test_all_sizes_with_a_cap_one_less(self):
        for height, width in sizes():
            for table in (made_table(height, width), great_table(height, width)):
                rows, columns = sums_of(table)
                for i in range(height):
                    for j in range(width):
                        if table[i][j] > 0:
                            self.check_paper(Frame(rows, columns, with_one(table, i, j, table[i][j] - 1)))
                            self.check_paper(Frame(rows, columns, with_one(table, i, j, 0)))

    def test_all_sizes_with_shut_cells(self):
        for height, width in sizes():
            shut = [[0] * width for row in range(height)]
            self.check_table(Frame([0] * height, [0] * width, shut))
            self.check_paper(Frame([1] * height, [1] * width, shut))
            self.check_paper(Frame([GREATEST] + [0] * (height - 1), [GREATEST] + [0] * (width - 1), shut))
            self.check_table(Frame([GREATEST] + [0] * (height - 1), [GREATEST] + [0] * (width - 1),
                                   with_one(shut, 0, 0, None)))
            if height > 1 and width > 1:
                self.check_paper(Frame([GREATEST] + [0] * (height - 1), [GREATEST] + [0] * (width - 1),
                                       with_one(shut, 1, 0, None)))

    def test_sums_that_do_not_come_to_the_same(self):
        for height, width in sizes():
            for rows, columns in (([1] * height, [0] * width), ([0] * height, [1] * width),
                                  ([GREATEST] * height, [0] * width), ([0] * height, [GREATEST] * width),
                                  ([height + width] * height, [width] * width)):
                for caps in (None, [[GREATEST] * width] * height, [[0] * width] * height, [[None] * width] * height):
                    self.check_paper(Frame(rows, columns, caps))
            table = great_table(height, width)
            rows, columns = sums_of(table)
            for caps in (None, table):
                self.check_paper(Frame(rows, columns[:-1] + [columns[-1] + 1], caps))
                self.check_paper(Frame(rows[:-1] + [rows[-1] + 1], columns, caps))

    def test_great_sums_in_a_short_time(self):
        with short_time():
            for frame, table in great_frames():
                self.assertTrue(is_table(frame, table))
                self.check_table(frame)

    def test_little_caps_that_just_let_great_sums_be(self):
        caps = [[1, GREATEST], [GREATEST, 1]]
        with short_time():
            self.check_table(Frame([GREATEST] * 2, [GREATEST] * 2, caps))
            self.check_table(Frame([GREATEST] * 6, [GREATEST] * 6, [[GREATEST // 6 + 1] * 6] * 6))
            self.check_paper(Frame([GREATEST] * 6, [GREATEST] * 6, [[GREATEST // 6] * 6] * 6))
            self.check_paper(Frame([GREATEST] * 6, [GREATEST] * 6, [[1] * 6] * 6))

    def test_rows_that_share_too_few_columns(self):
        caps = [[None, 0, 0], [None, 0, 0], [None, None, None]]
        self.check_paper(Frame([2, 2, 2], [3, 2, 1], caps))
        self.check_table(Frame([2, 2, 2], [4, 1, 1], caps))


class Shows(unittest.TestCase):
    def test_all_papers_of_few_frames(self):
        for frame in few_frames():
            height, width = len(frame.rows()), len(frame.columns())
            for word, many, other_many in (("rows", height, width), ("columns", width, height)):
                for some in some_of(many):
                    for others in some_of(other_many):
                        shown = adds_up(frame, word, some, others)
                        self.assertIs(shows_none(frame, (word, some, others)), shown)
                        self.assertIs(shows_none(frame, (word, tuple(some), others)), shown)
                        self.assertIs(shows_none(frame, (word, some, tuple(others))), shown)
                        self.assertIs(shows_none(frame, (word, tuple(some), tuple(others))), shown)

    def test_no_paper_shows_it_of_a_frame_with_tables(self):
        frame = Frame([3, 4, 1], [1, 3, 4], [[1, 3, 0], [None, 0, 4], [0, 0, None]])
        self.assertTrue(all_tables(frame))
        for word in ("rows", "columns"):
            for some in some_of(3):
                for others in some_of(3):
                    self.assertIs(shows_none(frame, (word, some, others)), False)

    def test_just_at_the_sums(self):
        self.assertIs(shows_none(Frame([5], [5], [[4]]), ("rows", [0], [])), True)
        self.assertIs(shows_none(Frame([5], [5], [[5]]), ("rows", [0], [])), False)
        self.assertIs(shows_none(Frame([5], [5], [[None]]), ("rows", [0], [])), False)
        self.assertIs(shows_none(Frame([6], [5], [[None]]), ("rows", [0], [0])), True)
        self.assertIs(shows_none(Frame([6], [5], [[None]]), ("columns", [0], [0])), False)
        self.assertIs(shows_none(Frame([5], [6], [[None]]), ("columns", [0], [0])), True)
        self.assertIs(shows_none(Frame([5, 1], [3, 3], [[2, None], [None, None]]), ("rows", [0], [1])), False)
        self.assertIs(shows_none(Frame([6, 0], [3, 3], [[2, None], [None, None]]), ("rows", [0], [1])), True)
        self.assertIs(shows_none(Frame([3, 3], [6, 0], [[2, None], [None, None]]), ("columns", [0], [1])), True)
        self.assertIs(shows_none(Frame([1], [0]), ("rows", [], [])), False)

    def test_what_is_no_paper(self):
        frame = Frame([9, 9, 9], [1, 1, 1], [[0, 0, 0]] * 3)
        good = ("rows", [0, 1], [2])
        self.assertIs(shows_none(frame, good), True)
        wrong = [list(good), good[:2], good[:1], (), good + ([],), good + (None,), (good,), [good], "rows", None,
                 ("table", [[0]]), ("rows",), ("rows", [0, 1]), ([0, 1], [2], "rows"), {"rows": [0]}]
        for word in ("row", "Rows", "rows ", " rows", "ROWS", "table", "", "column", b"rows", None, 0, True, ["rows"],
                     ("rows",), Hostile(), endless_list()):
            wrong.append((word, [0, 1], [2]))
        for places in ([0, 0], [1, 0], [0, 2, 1], [0, 1, 1], [2, 1, 0], [0, 1, 2, 3], [3], [-1], [-1, 0], [0, 3],
                       [[0], [1]], [0, [1]], "01", "0", {0: 1}, {0, 1}, range(2), iter([0]), 0, 1, None, b"\x00\x01",
                       [GREATEST], [0] * 7, list(range(7)), [False, True], [0, True], [False], endless_list()):
            wrong += [("rows", places, [2]), ("rows", [0, 1], places), ("rows", places, places)]
            wrong += [("columns", places, [2]), ("columns", [0, 1], places)]
        for thing in no_places(3):
            wrong += [("rows", [thing], [2]), ("rows", [0, 1], [thing]), ("rows", (0, thing), (2,))]
        for thing in no_lists() + [Hostile(), endless_list()]:
            wrong += [thing, ("rows", thing, [2]), ("rows", [0, 1], thing), (thing, [0, 1], [2])]
        for thing in wrong:
            self.assertIs(shows_none(frame, thing), False)

    def test_places_of_the_other_kind(self):
        frame = Frame([9, 9], [1, 1, 1])
        self.assertIs(shows_none(frame, ("rows", [0, 1], [0, 1, 2])), True)
        self.assertIs(shows_none(frame, ("rows", [0, 1, 2], [0, 1])), False)
        self.assertIs(shows_none(frame, ("rows", [0, 1], [0, 1, 3])), False)
        turned = Frame([1, 1, 1], [9, 9])
        self.assertIs(shows_none(turned, ("columns", [0, 1], [0, 1, 2])), True)
        self.assertIs(shows_none(turned, ("columns", [0, 1, 2], [0, 1])), False)


class Own(unittest.TestCase):
    def test_what_is_told_is_the_askers_own(self):
        for frame in (Frame([2, 3], [1, 4], [[1, None], [None, 3]]), Frame([2, 3], [1, 5]), Frame([2, 4], [1, 4])):
            kept = told(frame)
            answer = one_or_none(frame)
            first = copy.deepcopy(answer)
            for part in answer[1:]:
                part.clear()
            self.assertEqual(one_or_none(frame), first)
            if first[0] == "table":
                one_or_none(frame)[1][0][0] = 99
                self.assertEqual(one_or_none(frame), first)
            self.assertEqual(told(frame), kept)

    def test_what_is_handed_in_stays_and_may_change(self):
        rows, columns, caps = [2, 3], [1, 4], [[1, None], [None, 3]]
        frame = Frame(rows, columns, caps)
        first = one_or_none(frame)
        kept = copy.deepcopy(first)
        self.assertEqual((rows, columns, caps), ([2, 3], [1, 4], [[1, None], [None, 3]]))
        rows[0] = columns[0] = caps[0][0] = 77
        self.assertEqual(one_or_none(frame), kept)
        frame.__init__([1], [1])
        self.assertEqual(first, kept)

    def test_a_paper_stays(self):
        frame = Frame([9, 9], [1, 1])
        paper = ("rows", [0, 1], [0, 1])
        self.assertIs(shows_none(frame, paper), True)
        self.assertEqual(paper, ("rows", [0, 1], [0, 1]))
        paper[1].append(0)
        self.assertIs(shows_none(frame, paper), False)
        paper[1].pop()
        self.assertIs(shows_none(frame, paper), True)
        self.assertEqual(told(frame), ([9, 9], [1, 1], [[None] * 2] * 2))


if __name__ == "__main__":
    unittest.main()
