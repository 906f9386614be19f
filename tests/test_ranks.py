import copy
import fractions
import itertools
import unittest

from exacttable.frames import Frame
from exacttable.ranks import as_rare, ranked
from tests.test_shares import JUST_NARROW, TOO_WIDE, not_narrow, sizes_of
from tests.test_tables import wrong_tables
from tests.things import (
    GREATEST, all_tables, forms, narrow_frames, no_kinds, no_scores, refusal, scored, short_time, some_kinds,
    some_scores, told, weighed,
)


def rank_by_hand(tables, table, scores, kind):
    own = scored(table, scores)
    weights = [(scored(some, scores), weighed(some, kind)) for some in tables]
    return (sum(many for reached, many in weights if reached < own),
            sum(many for reached, many in weights if reached == own),
            sum(many for reached, many in weights if reached > own))


def rare_by_hand(tables, table, kind):
    weights = [weighed(some, kind) for some in tables]
    fraction = fractions.Fraction(sum(many for many in weights if many <= weighed(table, kind)), sum(weights))
    return fraction.numerator, fraction.denominator


class Ranks(unittest.TestCase):
    def test_by_hand(self):
        frame = Frame([2, 2], [2, 2])
        scores = [[1, 0], [0, 0]]
        self.assertEqual(ranked(frame, [[1, 1], [1, 1]], scores, ("ways",)), (1, 4, 1))
        self.assertEqual(ranked(frame, [[2, 0], [0, 2]], scores, ("ways",)), (5, 1, 0))
        self.assertEqual(ranked(frame, [[0, 2], [2, 0]], scores, ("once",)), (0, 1, 2))
        self.assertEqual(ranked(frame, [[0, 2], [2, 0]], [[0, 0], [0, 0]], ("once",)), (0, 3, 0))

    def test_against_all_tables(self):
        done = 0
        for frame, tables in narrow_frames():
            for scores, kind in itertools.product(some_scores(*sizes_of(frame)), some_kinds(*sizes_of(frame))):
                for table in tables[:2] + tables[2::len(tables) // 3 + 1]:
                    answer = ranked(frame, table, scores, kind)
                    self.assertEqual((type(answer), len(answer)), (tuple, 3))
                    self.assertEqual(answer, rank_by_hand(tables, table, scores, kind))
                    done += 1
        self.assertGreater(done, 2000)

    def test_a_whole_of_0_has_ranks(self):
        frame = Frame([1, 1], [1, 1])
        self.assertEqual(ranked(frame, [[1, 0], [0, 1]], [[1, 0], [0, 0]], ("factors", [[0] * 2] * 2)), (0, 0, 0))

    def test_500_tables_told_501_refused(self):
        tables, scores = all_tables(JUST_NARROW), [[1, 0], [0, -2], [3, 0]]
        with short_time():
            for table in tables[::100]:
                self.assertEqual(ranked(JUST_NARROW, table, scores, ("ways",)),
                                 rank_by_hand(tables, table, scores, ("ways",)))
                self.assertEqual(as_rare(JUST_NARROW, table, ("ways",)), rare_by_hand(tables, table, ("ways",)))
        table = all_tables(TOO_WIDE)[7]
        self.assertEqual(refusal(ranked, TOO_WIDE, table, scores, ("ways",)), "TooMany")
        self.assertEqual(refusal(as_rare, TOO_WIDE, table, ("ways",)), "TooMany")


class AsRare(unittest.TestCase):
    def test_by_hand(self):
        frame = Frame([2, 2], [2, 2])
        self.assertEqual(as_rare(frame, [[2, 0], [0, 2]], ("ways",)), (1, 3))
        self.assertEqual(as_rare(frame, [[1, 1], [1, 1]], ("ways",)), (1, 1))
        self.assertEqual(as_rare(frame, [[2, 0], [0, 2]], ("once",)), (1, 1))

    def test_against_all_tables(self):
        done = 0
        for frame, tables in narrow_frames():
            for kind in some_kinds(*sizes_of(frame)):
                whole = sum(weighed(table, kind) for table in tables)
                for table in tables:
                    if whole:
                        answer = as_rare(frame, table, kind)
                        self.assertEqual((type(answer), len(answer)), (tuple, 2))
                        self.assertEqual(answer, rare_by_hand(tables, table, kind))
                        done += 1
                    else:
                        self.assertEqual(refusal(as_rare, frame, table, kind), "NoWhole")
        self.assertGreater(done, 1000)

    def test_a_table_that_weighs_0(self):
        frame = Frame([1, 1], [1, 1])
        kind = ("factors", [[0, 1], [1, 1]])
        self.assertEqual(as_rare(frame, [[1, 0], [0, 1]], kind), (0, 1))
        self.assertEqual(as_rare(frame, [[0, 1], [1, 0]], kind), (1, 1))


class Refused(unittest.TestCase):
    def test_too_many_comes_first_of_all(self):
        for frame in not_narrow():
            height, width = sizes_of(frame)
            for table, scores, kind in itertools.product(([[1]], None), ([[1] * width] * height, None),
                                                         (("once",), None)):
                with short_time():
                    self.assertEqual(refusal(ranked, frame, table, scores, kind), "TooMany")
                    self.assertEqual(refusal(as_rare, frame, table, kind), "TooMany")

    def test_tables(self):
        frame = Frame([2, 2], [2, 2], [[1, None], [None, None]])
        for thing in wrong_tables() + [[[2, 0], [0, 2]], [[1, 1], [1, 2]], [[1, 1]], [[1, 1, 0], [1, 1, 0]]]:
            for kind in (("once",), None, ("factors", [[0] * 2] * 2)):
                self.assertEqual(refusal(ranked, frame, thing, [[1, 0], [0, 1]], kind), "NoTable")
                self.assertEqual(refusal(ranked, frame, thing, None, kind), "NoTable")
                self.assertEqual(refusal(as_rare, frame, thing, kind), "NoTable")
        for frame in (Frame([1], [2]), Frame([GREATEST], [1])):
            for thing in ([[1]], [[2]], [[GREATEST]], None):
                self.assertEqual(refusal(ranked, frame, thing, [[1]], ("once",)), "NoTable")
                self.assertEqual(refusal(as_rare, frame, thing, ("once",)), "NoTable")

    def test_scores_then_kinds(self):
        for frame, table in ((Frame([3, 4], [1, 3, 3]), [[1, 0, 2], [0, 3, 1]]), (Frame([1], [1]), [[1]])):
            height, width = sizes_of(frame)
            for thing in no_scores(height, width):
                self.assertEqual(refusal(ranked, frame, table, thing, ("once",)), "NoScores")
                self.assertEqual(refusal(ranked, frame, table, thing, None), "NoScores")
            for thing in no_kinds(height, width):
                self.assertEqual(refusal(ranked, frame, table, [[1] * width] * height, thing), "NoKind")
                self.assertEqual(refusal(as_rare, frame, table, thing), "NoKind")


class Own(unittest.TestCase):
    def test_what_is_handed_in_stays_and_may_be_tuples(self):
        frame = Frame([3, 4], [1, 3, 3], [[None, 2, None], [2, None, 2]])
        kept = told(frame)
        table, scores, factors = [[1, 0, 2], [0, 3, 1]], [[5, 7, -1], [2, 1, 0]], [[2, 1, 3], [1, 5, 7]]
        first = copy.deepcopy((table, scores, factors))
        rank, rare = ranked(frame, table, scores, ("factors", factors)), as_rare(frame, table, ("factors", factors))
        self.assertEqual((table, scores, factors), first)
        for forms_of in zip(forms(table), forms(scores), forms(factors)):
            self.assertEqual(ranked(frame, forms_of[0], forms_of[1], ("factors", forms_of[2])), rank)
            self.assertEqual(as_rare(frame, forms_of[0], ("factors", forms_of[2])), rare)
        self.assertEqual(told(frame), kept)
        table[0][0] = scores[0][0] = factors[0][0] = 99
        table, scores, factors = first
        self.assertEqual(ranked(frame, table, scores, ("factors", factors)), rank)
        self.assertEqual(as_rare(frame, table, ("factors", factors)), rare)


if __name__ == "__main__":
    unittest.main()
