import copy
import fractions
import itertools
import unittest

from exacttable.frames import Frame
from exacttable.shares import score, share, spread
from tests.test_tables import wrong_tables
from tests.things import (
    GREATEST, all_tables, forms, great_table, made_table, narrow_frames, no_kinds, no_numbers, no_scores, refusal,
    scored, short_time, sizes, some_kinds, some_scores, told, weighed,
)

# The products of all column sums, each and one more, are below 2,000; the tables are 499, 500 and 501.
NARROW = Frame([24, 24, 28], [34, 42])
JUST_NARROW = Frame([23, 26, 27], [34, 42])
TOO_WIDE = Frame([22, 26, 29], [34, 43])


def sizes_of(frame):
    return len(frame.rows()), len(frame.columns())


def spread_by_hand(tables, scores, kind):
    weights = {}
    for table in tables:
        reached = scored(table, scores)
        weights[reached] = weights.get(reached, 0) + weighed(table, kind)
    return weights


def share_by_hand(tables, scores, least, kind):
    part = sum(weighed(table, kind) for table in tables if scored(table, scores) >= least)
    fraction = fractions.Fraction(part, sum(weighed(table, kind) for table in tables))
    return fraction.numerator, fraction.denominator


def not_narrow():
    return [TOO_WIDE, Frame([2000], [2000]), Frame([GREATEST] * 6, [GREATEST] * 6), Frame([1], [1, 1000]),
            Frame([1] * 6, [1] * 6), Frame([2000], [2000], [[0]]), Frame([5, 5, 5, 6, 6, 7], [11, 11, 12])]


class Scores(unittest.TestCase):
    def test_by_hand(self):
        self.assertEqual(score([[1, 0, 2], [0, 3, 1]], [[5, 7, -1], [2, 1, -10]]), 5 - 2 + 3 - 10)
        self.assertEqual(score([[GREATEST]], [[-10 ** 6]]), -10 ** 18)
        self.assertEqual(score([[GREATEST] * 6] * 6, [[10 ** 6] * 6] * 6), 36 * 10 ** 18)
        self.assertEqual(score([[0]], [[10 ** 6]]), 0)

    def test_of_all_sizes(self):
        for height, width in sizes():
            for table in (made_table(height, width), great_table(height, width)):
                for scores in some_scores(height, width):
                    for form, score_form in zip(forms(table), forms(scores)):
                        self.assertEqual(score(form, score_form), scored(table, scores))

    def test_refused(self):
        for thing in wrong_tables():
            self.assertEqual(refusal(score, thing, [[1]]), "NoTable")
            self.assertEqual(refusal(score, thing, None), "NoTable")
        for height, width in ((1, 1), (2, 3), (3, 2), (6, 6)):
            for thing in no_scores(height, width):
                self.assertEqual(refusal(score, made_table(height, width), thing), "NoScores")
        for scores in ([[1, 1], [1, 1], [1, 1]], [[1, 1], [1, 1]], [[1, 1, 1]], [[1]], [[1] * 6] * 6):
            self.assertEqual(refusal(score, made_table(2, 3), scores), "NoScores")


class Spreads(unittest.TestCase):
    def test_against_all_tables(self):
        done = 0
        for frame, tables in narrow_frames():
            for scores, kind in itertools.product(some_scores(*sizes_of(frame)), some_kinds(*sizes_of(frame))):
                weights = spread(frame, scores, kind)
                self.assertIs(type(weights), dict)
                self.assertEqual(weights, spread_by_hand(tables, scores, kind))
                done += bool(tables)
        self.assertGreater(done, 1500)

    def test_a_score_whose_tables_weigh_0(self):
        frame = Frame([1, 1], [1, 1])
        kind = ("factors", [[0, 1], [1, 1]])
        self.assertEqual(spread(frame, [[5, 0], [0, 0]], kind), {5: 0, 0: 1})
        self.assertEqual(share(frame, [[5, 0], [0, 0]], 5, kind), (0, 1))
        self.assertEqual(share(frame, [[5, 0], [0, 0]], 0, kind), (1, 1))

    def test_empty_where_there_is_no_table(self):
        for frame in (Frame([1], [2]), Frame([1, 1], [1, 1], [[0, 0], [None, None]]), Frame([GREATEST] * 6, [1] * 6)):
            height, width = sizes_of(frame)
            for kind in some_kinds(height, width):
                self.assertEqual(spread(frame, [[1] * width] * height, kind), {})

    def test_500_tables_told_501_refused(self):
        scores = [[1, 0], [0, -2], [3, 0]]
        for frame, many in ((NARROW, 499), (JUST_NARROW, 500)):
            tables = all_tables(frame)
            self.assertEqual(len(tables), many)
            for kind in some_kinds(3, 2):
                with short_time():
                    self.assertEqual(spread(frame, scores, kind), spread_by_hand(tables, scores, kind))
                    if any(weighed(table, kind) for table in tables):
                        self.assertEqual(share(frame, scores, 7, kind), share_by_hand(tables, scores, 7, kind))
        self.assertEqual(len(all_tables(TOO_WIDE)), 501)
        self.assertEqual(refusal(spread, TOO_WIDE, scores, ("once",)), "TooMany")
        self.assertEqual(refusal(share, TOO_WIDE, scores, 7, ("once",)), "TooMany")

    def test_few_tables_among_many_that_can_be_begun(self):
        caps = [[None] * 3] * 4 + [[0, 0, 6], [0, 1, 6]]
        frame = Frame([5, 5, 5, 6, 6, 7], [11, 11, 12], caps)
        begun = Frame([5, 5, 5, 6], [11, 10, 0])
        tables = [table + [[0, 0, 6], [0, 1, 6]] for table in all_tables(begun)]
        self.assertEqual(len(tables), 161)
        for scores, kind in itertools.product(some_scores(6, 3), some_kinds(6, 3)):
            with short_time():
                self.assertEqual(spread(frame, scores, kind), spread_by_hand(tables, scores, kind))

    def test_great_columns(self):
        scores = [[10 ** 6, -10 ** 6], [-10 ** 6, 10 ** 6]]
        frame = Frame([500, 500], [999, 1])
        tables = all_tables(frame)
        for kind in some_kinds(2, 2):
            with short_time():
                self.assertEqual(spread(frame, scores, kind), spread_by_hand(tables, scores, kind))


class Shares(unittest.TestCase):
    def test_by_hand(self):
        frame = Frame([2, 2], [2, 2])
        scores = [[1, 0], [0, 0]]
        self.assertEqual(spread(frame, scores, ("ways",)), {0: 1, 1: 4, 2: 1})
        self.assertEqual(share(frame, scores, 1, ("ways",)), (5, 6))
        self.assertEqual(share(frame, scores, 2, ("once",)), (1, 3))
        self.assertEqual(share(frame, scores, 0, ("once",)), (1, 1))

    def test_against_all_tables(self):
        done = reduced = 0
        for frame, tables in narrow_frames():
            for scores, kind in itertools.product(some_scores(*sizes_of(frame)), some_kinds(*sizes_of(frame))):
                weights = spread_by_hand(tables, scores, kind)
                whole = sum(weights.values())
                if not whole:
                    self.assertEqual(refusal(share, frame, scores, 0, kind), "NoWhole")
                    continue
                reached = sorted(weights)
                beside = {one + more for one in (reached[0], reached[len(reached) // 2], reached[-1])
                          for more in (-1, 0, 1)}
                for least in sorted(beside | {-(10 ** 59), 10 ** 59}):
                    part = fractions.Fraction(sum(weights[one] for one in reached if one >= least), whole)
                    answer = share(frame, scores, least, kind)
                    self.assertEqual((type(answer), answer), (tuple, (part.numerator, part.denominator)))
                    done += 1
                    reduced += answer[1] < whole
                self.assertEqual(share(frame, scores, reached[0], kind), (1, 1))
                self.assertEqual(share(frame, scores, reached[-1] + 1, kind), (0, 1))
        self.assertGreater(done, 8000)
        self.assertGreater(reduced, 5000)

    def test_no_whole(self):
        for frame in (Frame([1], [2]), Frame([1, 1], [1, 1], [[0, 0], [None, None]]), Frame([GREATEST] * 6, [1] * 6)):
            height, width = sizes_of(frame)
            for kind in some_kinds(height, width):
                self.assertEqual(refusal(share, frame, [[1] * width] * height, 0, kind), "NoWhole")
        frame = Frame([1, 1], [1, 1])
        for least in (-5, 0, 5):
            self.assertEqual(refusal(share, frame, [[1, 0], [0, 1]], least, ("factors", [[0] * 2] * 2)), "NoWhole")
        self.assertEqual(share(Frame([0], [0]), [[1]], 0, ("factors", [[0]])), (1, 1))


class Refused(unittest.TestCase):
    def test_too_many_comes_first_of_all(self):
        for frame in not_narrow():
            height, width = sizes_of(frame)
            for scores in ([[1] * width] * height, None):
                for kind in (("once",), None):
                    with short_time():
                        self.assertEqual(refusal(spread, frame, scores, kind), "TooMany")
                        for least in (0, None):
                            self.assertEqual(refusal(share, frame, scores, least, kind), "TooMany")

    def test_scores(self):
        for frame in (Frame([3, 4], [1, 3, 3]), Frame([1], [1]), Frame([1], [2]), Frame([1, 1], [1, 1, 1])):
            for thing in no_scores(*sizes_of(frame)):
                self.assertEqual(refusal(spread, frame, thing, ("once",)), "NoScores")
                self.assertEqual(refusal(spread, frame, thing, None), "NoScores")
                self.assertEqual(refusal(share, frame, thing, 0, ("once",)), "NoScores")
                self.assertEqual(refusal(share, frame, thing, None, None), "NoScores")

    def test_numbers(self):
        for frame in (Frame([3, 4], [1, 3, 3]), Frame([3, 4], [1, 3, 2])):
            for thing in no_numbers():
                for kind in (("once",), None, ("factors", [[0] * 3] * 2)):
                    self.assertEqual(refusal(share, frame, [[1] * 3] * 2, thing, kind), "NoNumber")

    def test_kinds(self):
        for frame in (Frame([3, 4], [1, 3, 3]), Frame([1], [1]), Frame([1], [2]), Frame([1, 1], [1, 1, 1])):
            height, width = sizes_of(frame)
            for thing in no_kinds(height, width):
                self.assertEqual(refusal(spread, frame, [[1] * width] * height, thing), "NoKind")
                self.assertEqual(refusal(share, frame, [[1] * width] * height, 0, thing), "NoKind")


class Own(unittest.TestCase):
    def test_what_is_handed_in_stays(self):
        frame = Frame([3, 4], [1, 3, 3], [[None, 2, None], [2, None, 2]])
        kept = told(frame)
        table, scores, kind = [[1, 0, 2], [0, 3, 1]], [[5, 7, -1], [2, 1, 0]], ("factors", [[2, 0, 3], [0, 5, 7]])
        first = copy.deepcopy((table, scores, kind))
        score(table, scores)
        spread(frame, scores, kind)
        share(frame, scores, 3, kind)
        refusal(share, frame, scores, None, kind)
        self.assertEqual((table, scores, kind), first)
        self.assertEqual(told(frame), kept)

    def test_tuples_too(self):
        frame = Frame([3, 4], [1, 3, 3])
        scores, factors = [[5, 7, -1], [2, 1, 0]], [[2, 0, 3], [0, 5, 7]]
        first = spread(frame, scores, ("factors", factors))
        for form, factor_form in itertools.product(forms(scores), forms(factors)):
            self.assertEqual(spread(frame, form, ("factors", factor_form)), first)
            self.assertEqual(share(frame, form, 9, ("factors", factor_form)),
                             share_by_hand(all_tables(frame), scores, 9, ("factors", factors)))

    def test_changing_what_was_told_or_handed_in_changes_no_other_answer(self):
        frame = Frame([3, 4], [1, 3, 3])
        scores, factors = [[5, 7, -1], [2, 1, 0]], [[2, 1, 3], [1, 5, 7]]
        weights = spread(frame, scores, ("factors", factors))
        kept = dict(weights)
        scores[0][0] = factors[0][0] = 99
        self.assertEqual(weights, kept)
        weights.clear()
        weights[0] = 0
        self.assertEqual(spread(frame, [[5, 7, -1], [2, 1, 0]], ("factors", [[2, 1, 3], [1, 5, 7]])), kept)


if __name__ == "__main__":
    unittest.main()
