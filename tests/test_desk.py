import itertools
import unittest

from exacttable.bounds import bounds
from exacttable.counts import counted, is_narrow, is_small, number_of, table_at
from exacttable.desk import Desk
from exacttable.frames import Frame
from exacttable.one import one_or_none
from exacttable.order import first_table, following, last_table
from exacttable.shares import share
from exacttable.ways import led
from exacttable.weights import whole
from tests.things import (
    GREATEST, few_frames, free_ones, great_frames, no_lists, no_numbers, refusal, short_time, some_scores, turned_round,
)

SIXTY = "1" + "0" * 59
SIXTY_ONE = "1" + "0" * 60


def in_figures(row):
    return " ".join(str(number) for number in row)


def in_rows(rows):
    return "; ".join(in_figures(row) for row in rows)


def cap_rows(caps):
    return "; ".join(" ".join("-" if cap is None else str(cap) for cap in row) for row in caps)


def frame_row(frame):
    return "frame " + in_figures(frame.rows()) + " / " + in_figures(frame.columns())


def desk_of(frame):
    """A desk that has been told a frame."""
    desk = Desk()
    answers = [desk.say(frame_row(frame))]
    if any(cap is not None for row in frame.caps() for cap in row):
        answers.append(desk.say("caps " + cap_rows(frame.caps())))
    assert set(answers) == {"ok"}, answers
    return desk


def answer_or_refusal(deed, *things):
    """What a deed tells, or the name of its refusal."""
    name = refusal(deed, *things)
    return deed(*things) if name == "not refused" else name


def as_text(answer):
    """A told table or None as the desk writes it; the names of refusals stay."""
    if isinstance(answer, str):
        return answer
    return "none" if answer is None else in_rows(answer)


class Answers(unittest.TestCase):
    def check(self, desk, row, wanted):
        """The answer, or the refusal, to a row."""
        name = refusal(desk.say, row)
        answer = desk.say(row) if name == "not refused" else name
        self.assertIs(type(answer), str)
        self.assertEqual(answer, wanted, row)

    def frames(self):
        return few_frames() + [frame for frame, table in great_frames()[::5]]

    def test_by_hand(self):
        desk = Desk()
        for row, wanted in (
                ("one", "table 0"), ("count", "1"), ("frame 3 4 / 1 3 3", "ok"), ("count", "7"),
                ("caps - 0 -; 2 - 1", "ok"), ("count", "2"), ("first", "0 0 3; 1 3 0"), ("last", "1 0 2; 0 3 1"),
                ("next 0 0 3; 1 3 0", "1 0 2; 0 3 1"), ("next 1 0 2; 0 3 1", "none"), ("number 1 0 2; 0 3 1", "1"),
                ("at 0", "0 0 3; 1 3 0"), ("bounds 1 2", "0 1"), ("whole once", "2"), ("whole ways", "4"),
                ("caps - 0 1; 2 - 2", "ok"), ("one", "rows 0 / 0"), ("first", "none"), ("last", "none"),
                ("count", "0"), ("whole ways", "0"), ("frame 2 3 / 1 4", "ok"), ("first", "0 2; 1 2"),
                ("last", "1 1; 0 3"), ("next 0 2; 1 2", "1 1; 0 3"), ("number 1 1; 0 3", "1"), ("at 1", "1 1; 0 3"),
                ("count", "2"), ("way 0 2; 1 2 / 1 1; 0 3", "0 1 1 0 1"), ("way 0 2; 1 2 / 0 2; 1 2", "none"),
                ("bounds 0 1", "1 2"), ("whole once", "2"), ("whole ways", "10"), ("share 1 once / 1 0; 0 0", "1/2"),
                ("share 1 ways / 1 0; 0 0", "2/5"), ("share -3 ways / -1 0; 0 0", "1/1"),
                ("share 1 ways / -1 0; 0 0", "0/1"), ("frame 0 0 / 0", "ok"), ("one", "table 0; 0")):
            self.check(desk, row, wanted)

    def test_one(self):
        for frame in self.frames():
            answer = one_or_none(frame)
            if answer[0] == "table":
                wanted = "table " + in_rows(answer[1])
            else:
                wanted = answer[0] + " " + in_figures(answer[1]) + " / " + in_figures(answer[2])
            self.check(desk_of(frame), "one", wanted)

    def test_papers(self):
        for row, caps, wanted in (("frame 2 / 1", None, "rows 0 / 0"), ("frame 1 / 2", None, "columns 0 / 0"),
                                  ("frame 1 1 / 1 1", "caps 0 0; - -", "rows 0 / "),
                                  ("frame 1 0 1 / 2 0", "caps 0 -; - -; 0 -", "rows 0 2 / 1")):
            desk = Desk()
            self.check(desk, row, "ok")
            if caps is not None:
                self.check(desk, caps, "ok")
            self.check(desk, "one", wanted)

    def test_first_last_and_next(self):
        for frame in self.frames():
            desk = desk_of(frame)
            self.check(desk, "first", as_text(first_table(frame)))
            self.check(desk, "last", as_text(last_table(frame)))
            table = first_table(frame)
            for turn in range(3):
                if table is not None:
                    after = following(frame, table)
                    self.check(desk, "next " + in_rows(table), as_text(after))
                    table = after
            self.check(desk, "next " + in_rows([[7] * 5]), "NoTable")

    def test_count_number_and_at(self):
        for frame in self.frames():
            desk = desk_of(frame)
            self.check(desk, "count", str(answer_or_refusal(counted, frame)))
            for number in (-1, 0, 1, 5, 10 ** 59, -(10 ** 59)):
                self.check(desk, f"at {number}", as_text(answer_or_refusal(table_at, frame, number)))
            table = last_table(frame) or [[1]]
            self.check(desk, "number " + in_rows(table), str(answer_or_refusal(number_of, frame, table)))

    def test_ways(self):
        for frame in free_ones(self.frames()):
            desk = desk_of(frame)
            first, last = first_table(frame), last_table(frame)
            if first is not None:
                steps = led(frame, first, last)
                wanted = "; ".join(in_figures(step) for step in steps) if steps else "none"
                self.check(desk, "way " + in_rows(first) + " / " + in_rows(last), wanted)
                self.check(desk, "way " + in_rows(last) + " / " + in_rows(last), "none")
                self.check(desk, "way " + in_rows(last) + " / 1 2", "NoTable")
        for frame, table in great_frames():
            if None not in frame.caps()[0]:
                text = in_rows(table) + " / " + in_rows(turned_round(table))
                self.check(desk_of(frame), "way " + text, "Bounded")

    def test_bounds(self):
        for frame in self.frames()[::2]:
            desk = desk_of(frame)
            for i, j in itertools.product((-1, 0, 1, 6, GREATEST), repeat=2):
                answer = answer_or_refusal(bounds, frame, i, j)
                self.check(desk, f"bounds {i} {j}", answer if isinstance(answer, str) else in_figures(answer[:2]))

    def test_wholes(self):
        for frame in self.frames():
            desk = desk_of(frame)
            for word in ("once", "ways"):
                self.check(desk, "whole " + word, str(answer_or_refusal(whole, frame, (word,))))
        with short_time():
            self.check(desk_of(Frame([334] * 5 + [329], [1999])), "whole ways",
                       str(whole(Frame([334] * 5 + [329], [1999]), ("ways",))))

    def test_shares(self):
        told_ones = 0
        for frame in self.frames():
            desk = desk_of(frame)
            if is_small(frame) and not is_narrow(frame):
                continue
            for scores in some_scores(len(frame.rows()), len(frame.columns())):
                for least, word in itertools.product((-7, 0, 2, -(10 ** 59)), ("once", "ways")):
                    answer = answer_or_refusal(share, frame, scores, least, (word,))
                    wanted = answer if isinstance(answer, str) else f"{answer[0]}/{answer[1]}"
                    self.check(desk, f"share {least} {word} / {in_rows(scores)}", wanted)
                    told_ones += "/" in wanted
        self.assertGreater(told_ones, 500)


class NoLines(unittest.TestCase):
    def check(self, rows):
        for frame in (Frame([0], [0]), Frame([2, 3], [1, 4]), Frame([GREATEST] * 2, [GREATEST] * 3, [[5] * 3] * 2)):
            desk = desk_of(frame)
            for row in rows:
                self.assertEqual(refusal(desk.say, row), "NoLine", row)

    def test_things_that_are_no_texts(self):
        for thing in no_lists() + no_numbers() + [b"one", ["one"], ("one",), {"one"}, 5]:
            if not isinstance(thing, str):
                self.assertEqual(refusal(Desk().say, thing), "NoLine")

    def test_other_words(self):
        self.check(["", " ", "two", "One", "ONE", "table", "none", "ok", "0", "1 0", "-", "/", ";", "on", "ones",
                    "firs", "counts", "Count", "frames 1 / 1", "cap -", "Caps -", "rows 1", "ways 0 / 0", "ring 0 / 0",
                    "rings 0 / 0", "weight 0 once", "score 0 / 0", "spread once / 0", "rank 0", "cubes 0 / 0 / 0",
                    "exit", "help", "one;", "one/", "one\n", "\none", "one\t", "whole", "share", "frame", "caps",
                    "next", "number", "at", "way", "bounds"])

    def test_a_blank_more_or_less(self):
        rows = ["one", "first", "last", "count", "next 0 2; 1 2", "number 0 2; 1 2", "at 0", "way 0 2; 1 2 / 1 1; 0 3",
                "bounds 0 0", "whole once", "share 0 once / 1 0; 0 0", "frame 2 3 / 1 4", "caps - 1; 2 -"]
        for row in rows:
            self.assertEqual(refusal(desk_of(Frame([2, 3], [1, 4])).say, row), "not refused")
            blanks = [at for at, sign in enumerate(row) if sign == " "]
            wrong = [" " + row, row + " "] + [row[:at] + " " + row[at:] for at in blanks]
            # Without the blank between two figures the row may be another one that is let.
            wrong += [row[:at] + row[at + 1:] for at in blanks
                      if not (row[at - 1].isdigit() and row[at + 1].isdigit() and row[at - 1] != "0")]
            wrong += [row[:at] + "\t" + row[at + 1:] for at in blanks]
            self.check(wrong)

    def test_words_behind_the_last(self):
        self.check(["one 0", "one one", "first 0", "last 0", "count 0", "next 0 / 0", "number 0 / 0", "at 0 0",
                    "at 0; 0", "way 0 / 0 / 0", "way 0", "way 0 /", "way / 0", "way /", "way 0 / ", "way  / 0",
                    "bounds 0", "bounds 0 0 0", "bounds 0 / 0", "bounds 0; 0", "whole once ways", "whole once once",
                    "whole factors", "whole Once", "whole 0", "whole -", "share 0 once", "share 0 once /",
                    "share 0 once / ", "share once / 0", "share once 0 / 0", "share 0 / 0", "share 0 once / 0 / 0",
                    "share 0 0 once / 0", "share 0 factors / 0", "share 0 once 0", "share 0 once ways / 0",
                    "share / 0", "frame 1", "frame 1 /", "frame / 1", "frame 1 / ", "frame  / 1", "frame /",
                    "frame 1 / 1 / 1", "frame 1 1", "frame 1; 1 / 1", "frame 1 / 1; 1", "frame 1/1", "frame 1, 1 / 1",
                    "caps /", "caps 0 / 0", "caps ;", "caps 0;", "caps 0; ", "caps ; 0", "caps 0;0", "caps 0 ; 0",
                    "caps none", "caps None"])

    def test_numbers_that_are_none(self):
        for bad in ("00", "01", "007", "+1", "+0", "1.0", "1e3", "0x1", "1_0", "a", "--1", "1-", "-", "-0", "-00",
                    "-01", "- 1", SIXTY_ONE, "-" + SIXTY_ONE, "9" * 2000, "0" * 60, "1" + "0" * 4500):
            rows = [f"at {bad}", f"bounds {bad} 0", f"bounds 0 {bad}", f"share {bad} once / 0",
                    f"share 0 once / {bad}", f"share 0 ways / 0 {bad}; 0 0", f"share 0 ways / 0 0; {bad} 0",
                    f"frame {bad} / 0", f"frame 0 / {bad}", f"frame 0 {bad} / 0", f"frame 0 / 0 {bad}"]
            if bad not in ("-", "- 1"):
                rows += [f"caps {bad}", f"caps 0 {bad}; - -", f"caps 0 0; {bad} -"]
            self.check(rows)

    def test_signs_where_there_are_none(self):
        self.check(["frame -1 / 1", "frame 1 / -1", "frame - / 1", "frame 1 / -", "caps -1", "caps - -1", "caps --",
                    "caps 0 -; -2 0", "next -1", "number -1", "way -1 / 0", "way 0 / -1", "next -", "number - 1"])

    def test_tables_that_are_not_written_as_they_are_to_be(self):
        for bad in ("", "00", "01 0", "1 0;0 1", "1 0 ; 0 1", "1 0; 0", "1; 0 1", "1 0; ", "; 1", "1,0", "-1", "+1",
                    "-", str(GREATEST + 1), SIXTY, "1 1 1 1 1 1 1", "; ".join("1" * 7), "1 0\n", "a", "0 2;  1 2",
                    "1 -0", "[[1]]", "none"):
            self.check([f"next {bad}", f"number {bad}", f"way {bad} / 0 2; 1 2", f"way 0 2; 1 2 / {bad}"])

    def test_no_line_comes_ahead_of_what_the_stages_refuse(self):
        desk = desk_of(Frame([GREATEST] * 2, [GREATEST] * 2, [[5] * 2] * 2))
        for row, name in (("count", "TooMany"), ("at 00", "NoLine"), ("at 0", "TooMany"), ("number 00", "NoLine"),
                          ("number 0", "TooMany"), ("way 0 / 00", "NoLine"), ("way 0 / 0", "Bounded"),
                          ("whole factors", "NoLine"), ("whole ways", "TooMany"), ("share 0 once / 00", "NoLine"),
                          ("share 0 once / 0", "TooMany"), ("share 00 once / 0", "NoLine"), ("bounds 9 00", "NoLine"),
                          ("bounds 9 0", "NoCell"), ("bounds 0 0", "NoTable"), ("next 0", "NoTable"),
                          ("caps 1; 00", "NoLine"), ("frame 1 1 1 1 1 1 1 / 00", "NoLine")):
            self.assertEqual(refusal(desk.say, row), name, row)


class Stages(unittest.TestCase):
    def refused(self, frame, row):
        return refusal(desk_of(frame).say, row)

    def test_sixty_figures_are_read(self):
        frame = Frame([2, 3], [1, 4])
        for row, name in ((f"frame {SIXTY} / 1", "NoSums"), (f"frame 1 / {SIXTY}", "NoSums"),
                          (f"caps {SIXTY} 1; 1 1", "NoCaps"), (f"at {SIXTY}", "NoNumber"), (f"at -{SIXTY}", "NoNumber"),
                          (f"bounds {SIXTY} 0", "NoCell"), (f"bounds 0 -{SIXTY}", "NoCell"),
                          (f"share 0 once / {SIXTY} 0; 0 0", "NoScores"),
                          (f"share 0 once / 0 0; 0 -{SIXTY}", "NoScores")):
            self.assertEqual(self.refused(frame, row), name, row)
        desk = desk_of(frame)
        self.assertEqual(desk.say(f"share {SIXTY} once / 1 0; 0 0"), "0/1")
        self.assertEqual(desk.say(f"share -{SIXTY} once / 1 0; 0 0"), "1/1")
        self.assertEqual(desk.say("share -" + "9" * 60 + " once / 1 0; 0 0"), "1/1")

    def test_sums(self):
        for row in ("frame 1 1 1 1 1 1 1 / 7", "frame 7 / 1 1 1 1 1 1 1", f"frame {GREATEST + 1} / 1",
                    f"frame 1 / {GREATEST + 1}", "frame " + " ".join("1" * 500) + " / 1"):
            self.assertEqual(self.refused(Frame([0], [0]), row), "NoSums", row)
        self.assertEqual(Desk().say(f"frame {GREATEST} / {GREATEST}"), "ok")
        self.assertEqual(Desk().say("frame 1 1 1 1 1 1 / 1 1 1 1 1 1"), "ok")

    def test_caps_of_another_shape(self):
        for row in ("caps -", "caps 0", "caps - -", "caps - -; -", "caps -; - -", "caps - -; - -; - -",
                    "caps - - -; - - -", "caps " + "; ".join(["- - - - - - -"] * 7), "caps - - - - - - -",
                    f"caps - -; - {GREATEST + 1}"):
            self.assertEqual(self.refused(Frame([2, 3], [1, 4]), row), "NoCaps", row)

    def test_scores_of_another_shape(self):
        for scores in ("1", "1 0", "1 0; 0", "1; 0 0", "1 0; 0 0; 0 0", "1 0 0; 0 0 0",
                       "; ".join(["0 0 0 0 0 0 0"] * 7), "0 0 0 0 0 0 0", f"0 0; 0 {10 ** 6 + 1}",
                       f"-{10 ** 6 + 1} 0; 0 0"):
            self.assertEqual(self.refused(Frame([2, 3], [1, 4]), f"share 0 once / {scores}"), "NoScores", scores)
        desk = desk_of(Frame([2, 3], [1, 4]))
        self.assertEqual(desk.say(f"share 0 once / -{10 ** 6} {10 ** 6}; 0 0"), "1/1")

    def test_others(self):
        free = Frame([2, 3], [1, 4])
        for frame, row, name in (
                (free, "next 1 2; 3 4", "NoTable"), (free, "number 2", "NoTable"), (free, "at 2", "NoNumber"),
                (free, "at -1", "NoNumber"), (free, "bounds 2 0", "NoCell"), (free, "bounds 0 -1", "NoCell"),
                (free, "way 0 2; 1 2 / 2 0; 0 3", "NoTable"), (free, "way 2 0; 0 3 / 0 2; 1 2", "NoTable"),
                (Frame([1], [2]), "share 0 once / 1", "NoWhole"), (Frame([1], [2]), "bounds 0 0", "NoTable"),
                (Frame([1], [2]), "at 0", "NoNumber"), (Frame([2000], [2000]), "count", "TooMany"),
                (Frame([1] * 6, [1] * 6), "share 0 once / 1", "TooMany"),
                (Frame([2, 3], [1, 4], [[None, None], [None, 4]]), "way 0 2; 1 2 / 0 2; 1 2", "Bounded")):
            self.assertEqual(self.refused(frame, row), name, row)


class Kept(unittest.TestCase):
    def asked(self, desk):
        """What a desk tells of its frame."""
        return [desk.say(row) if refusal(desk.say, row) == "not refused" else refusal(desk.say, row)
                for row in ("one", "first", "last", "count", "whole ways", "bounds 0 0", "bounds 1 1")]

    def test_the_first_frame(self):
        desk = Desk()
        for row, wanted in (("one", "table 0"), ("first", "0"), ("last", "0"), ("next 0", "none"), ("count", "1"),
                            ("number 0", "0"), ("at 0", "0"), ("way 0 / 0", "none"), ("bounds 0 0", "0 0"),
                            ("whole once", "1"), ("whole ways", "1"), ("share 0 once / 5", "1/1"), ("caps 0", "ok")):
            self.assertEqual(desk.say(row), wanted, row)
        self.assertEqual(refusal(Desk().say, "bounds 0 1"), "NoCell")

    def test_caps_told_anew(self):
        desk = desk_of(Frame([2, 3], [1, 4]))
        free = self.asked(desk)
        self.assertEqual(desk.say("caps 0 -; - -"), "ok")
        self.assertEqual(desk.say("count"), "1")
        self.assertEqual(desk.say("last"), "0 2; 1 2")
        self.assertEqual(desk.say("caps - 1; - -"), "ok")
        self.assertEqual(desk.say("first"), "1 1; 0 3")
        self.assertEqual(desk.say("caps - -; - -"), "ok")
        self.assertEqual(self.asked(desk), free)
        self.assertEqual(refusal(desk.say, "way 0 2; 1 2 / 0 2; 1 2"), "not refused")

    def test_the_frame_told_anew_has_no_caps(self):
        desk = desk_of(Frame([2, 3], [1, 4]))
        free = self.asked(desk)
        desk.say("caps 0 -; - -")
        self.assertNotEqual(self.asked(desk), free)
        self.assertEqual(desk.say("frame 2 3 / 1 4"), "ok")
        self.assertEqual(self.asked(desk), free)
        self.assertEqual(desk.say("way 0 2; 1 2 / 1 1; 0 3"), "0 1 1 0 1")

    def test_what_is_refused_changes_nothing(self):
        for frame in (Frame([2, 3], [1, 4], [[None, 1], [None, None]]), Frame([0], [0]), Frame([2, 2], [3, 2])):
            desk = desk_of(frame)
            kept = self.asked(desk)
            for row in ("frame 1 1 1 1 1 1 1 / 7", "frame 5 / 00", "frame 5", f"frame 5 / {SIXTY}", "frame -1 / 1",
                        "caps 0 0 0; 0 0 0", "caps 0 0; 0", "caps 00 0; 0 0", f"caps 0 0; 0 {SIXTY}", "caps", None, 5,
                        "next 9", "at 99", "bounds 9 9", "number 9", "way 9 / 9", "whole", "share 0 once / 9 9 9",
                        ["frame 5 / 5"], "caps 0;0"):
                self.assertNotEqual(refusal(desk.say, row), "not refused")
                self.assertEqual(self.asked(desk), kept, row)

    def test_asking_changes_nothing(self):
        desk = desk_of(Frame([2, 3], [1, 4], [[None, None], [None, 3]]))
        kept = self.asked(desk)
        for turn in range(3):
            self.assertEqual(self.asked(desk), kept)

    def test_two_desks_beside_each_other(self):
        one, other = Desk(), Desk()
        one.say("frame 2 3 / 1 4")
        self.assertEqual(other.say("count"), "1")
        self.assertEqual(other.say("one"), "table 0")
        other.say("frame 2 2 / 2 2")
        other.say("caps 1 -; - -")
        self.assertEqual((one.say("count"), other.say("count")), ("2", "2"))
        self.assertEqual((one.say("first"), other.say("first")), ("0 2; 1 2", "0 2; 2 0"))
        self.assertEqual((one.say("last"), other.say("last")), ("1 1; 0 3", "1 1; 1 1"))
        self.assertEqual(Desk().say("count"), "1")

    def test_say_is_defined_in_the_class_itself(self):
        self.assertIn("say", vars(Desk))


if __name__ == "__main__":
    unittest.main()
