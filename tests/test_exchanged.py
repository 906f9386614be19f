import copy
import itertools
import unittest

from exacttable.frames import Frame
from exacttable.tables import exchanged_frame, exchanged_table, is_table, table_sums
from tests.test_tables import wrong_tables
from tests.things import forms, made_caps, made_table, no_lists, no_places, refusal, sizes, sums_of, told


def some_orders(many):
    """A few orders: as it is, turned about, moved on, and one that is not its own way back."""
    places = list(range(many))
    return [places, places[::-1], places[1:] + places[:1], places[2:] + places[:1] + places[1:2]]


def wrong_orders(many):
    """Things that are no orders of so many places."""
    places = list(range(many))
    wrong = no_lists() + [[], (), places + [many], places + [0], [place + 1 for place in places]]
    wrong += [places[:-1], places[1:], [places], [place - 1 for place in places], [str(place) for place in places]]
    wrong += [tuple(places) + (0,), list(range(1000))]
    if many > 1:
        wrong += [[0] * many, places[:-1] + [0], places[1:] + [many - 1], [True, False] + places[2:]]
    for thing in no_places(many):
        wrong += [[thing] + places[1:], places[:-1] + [thing], [thing] * many]
    return wrong


class Ordinary(unittest.TestCase):
    def test_place_k_has_what_the_order_tells(self):
        self.assertEqual(exchanged_table([[1, 2, 3], [4, 5, 6]], [1, 0], [2, 0, 1]), [[6, 4, 5], [3, 1, 2]])
        frame = Frame([10, 20], [7, 8, 15], [[1, 2, 3], [4, None, 6]])
        self.assertEqual(told(exchanged_frame(frame, [1, 0], [2, 0, 1])),
                         ([20, 10], [15, 7, 8], [[6, 4, None], [3, 1, 2]]))

    def test_all_orders_of_three_and_four(self):
        table = made_table(3, 4)
        caps = made_caps(table)
        rows, columns = sums_of(table)
        frame = Frame(rows, columns, caps)
        for order in itertools.permutations(range(3)):
            for other in itertools.permutations(range(4)):
                turned = exchanged_table(table, order, list(other))
                of_frame = exchanged_frame(frame, list(order), other)
                for k in range(3):
                    self.assertEqual(of_frame.rows()[k], rows[order[k]])
                    for n in range(4):
                        self.assertEqual(turned[k][n], table[order[k]][other[n]])
                        self.assertEqual(of_frame.cap(k, n), caps[order[k]][other[n]])
                self.assertEqual(of_frame.columns(), [columns[place] for place in other])

    def test_all_sizes(self):
        for height, width in sizes():
            table = made_table(height, width)
            frame = Frame(*sums_of(table), made_caps(table))
            for order in some_orders(height):
                for other in some_orders(width):
                    turned = exchanged_table(table, order, other)
                    of_frame = exchanged_frame(frame, order, other)
                    self.assertEqual(turned, [[table[i][j] for j in other] for i in order])
                    self.assertEqual((of_frame.rows(), of_frame.columns()), table_sums(turned))
                    self.assertEqual(of_frame.caps(), [[frame.cap(i, j) for j in other] for i in order])
                    self.assertTrue(is_table(of_frame, turned))

    def test_forms_and_kinds(self):
        for form in forms([[1, 2], [3, 4], [5, 6]]):
            for order in ([2, 0, 1], (2, 0, 1)):
                for other in ([1, 0], (1, 0)):
                    turned = exchanged_table(form, order, other)
                    self.assertEqual(turned, [[6, 5], [2, 1], [4, 3]])
                    self.assertEqual([type(turned)] + [type(row) for row in turned], [list] * 4)
        self.assertIs(type(exchanged_frame(Frame([1], [1]), (0,), [0])), Frame)

    def test_a_free_frame_stays_free(self):
        self.assertEqual(told(exchanged_frame(Frame([1, 2], [3, 0]), [1, 0], [0, 1])),
                         ([2, 1], [3, 0], [[None, None], [None, None]]))


class Refused(unittest.TestCase):
    def test_what_are_no_orders(self):
        for height, width in ((1, 1), (2, 3), (3, 2), (6, 6)):
            table = made_table(height, width)
            frame = Frame(*sums_of(table))
            for thing in wrong_orders(height):
                self.assertEqual(refusal(exchanged_table, table, thing, list(range(width))), "NoOrder")
                self.assertEqual(refusal(exchanged_frame, frame, thing, list(range(width))), "NoOrder")
            for thing in wrong_orders(width):
                self.assertEqual(refusal(exchanged_table, table, list(range(height)), thing), "NoOrder")
                self.assertEqual(refusal(exchanged_frame, frame, list(range(height)), thing), "NoOrder")

    def test_orders_in_each_others_place(self):
        self.assertEqual(refusal(exchanged_table, [[1, 2, 3], [4, 5, 6]], [2, 0, 1], [1, 0]), "NoOrder")
        self.assertEqual(refusal(exchanged_frame, Frame([1, 1], [1, 1, 0]), [2, 0, 1], [1, 0]), "NoOrder")

    def test_what_are_no_tables(self):
        for thing in wrong_tables():
            self.assertEqual(refusal(exchanged_table, thing, [0], [0]), "NoTable")

    def test_tables_come_ahead_of_orders(self):
        for thing in wrong_tables():
            self.assertEqual(refusal(exchanged_table, thing, [0, 0], None), "NoTable")
            self.assertEqual(refusal(exchanged_table, thing, None, "x"), "NoTable")

    def test_what_is_refused_changes_nothing(self):
        table, order, other = [[1, 2], [3, 4]], [1, 0], [1, 1]
        frame = Frame([3, 7], [4, 6], table)
        self.assertEqual(refusal(exchanged_table, table, order, other), "NoOrder")
        self.assertEqual(refusal(exchanged_frame, frame, order, other), "NoOrder")
        self.assertEqual((table, order, other), ([[1, 2], [3, 4]], [1, 0], [1, 1]))
        self.assertEqual(told(frame), ([3, 7], [4, 6], [[1, 2], [3, 4]]))


class Own(unittest.TestCase):
    def test_what_is_handed_in_stays(self):
        table, order, other = [[1, 2], [3, 4]], [1, 0], [0, 1]
        frame = Frame([3, 7], [4, 6], table)
        exchanged_table(table, order, other)
        exchanged_frame(frame, order, other)
        self.assertEqual((table, order, other), ([[1, 2], [3, 4]], [1, 0], [0, 1]))
        self.assertEqual(told(frame), ([3, 7], [4, 6], [[1, 2], [3, 4]]))

    def test_changing_a_told_table_changes_nothing_else(self):
        table = [[1, 2], [3, 4]]
        turned = exchanged_table(table, [0, 1], [0, 1])
        turned[0][0] = 99
        turned.pop()
        self.assertEqual(table, [[1, 2], [3, 4]])
        self.assertEqual(exchanged_table(table, [0, 1], [0, 1]), [[1, 2], [3, 4]])

    def test_changing_what_was_handed_in_changes_no_answer(self):
        table, order, other = [[1, 2], [3, 4]], [0, 1], [0, 1]
        frame = Frame([3, 7], [4, 6], table)
        turned = exchanged_table(table, order, other)
        of_frame = exchanged_frame(frame, order, other)
        table[0][0] = order[0] = other[0] = 77
        self.assertEqual(turned, [[1, 2], [3, 4]])
        self.assertEqual(told(of_frame), ([3, 7], [4, 6], [[1, 2], [3, 4]]))

    def test_a_told_frame_is_the_askers_own(self):
        frame = Frame([3, 7], [4, 6], [[1, 2], [3, 4]])
        of_frame = exchanged_frame(frame, [0, 1], [0, 1])
        self.assertIsNot(of_frame, frame)
        kept = copy.deepcopy(told(frame))
        of_frame.__init__([5], [6], [[7]])
        self.assertEqual(told(frame), kept)
        self.assertEqual(told(exchanged_frame(frame, [0, 1], [0, 1])), kept)
        again = exchanged_frame(frame, [0, 1], [0, 1])
        frame.__init__([5], [6], [[7]])
        self.assertEqual(told(again), kept)


if __name__ == "__main__":
    unittest.main()
