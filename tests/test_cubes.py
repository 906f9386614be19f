import copy
import itertools
import random
import unittest

from exacttable.cubes import cubes, faces
from tests.test_tables import wrong_tables
from tests.things import Hostile, endless_list, forms, no_lists, no_numbers, refusal, short_time

SIZES = list(itertools.product(range(1, 4), repeat=3))


def made_cube(layers, height, width):
    """An ordinary cube, with numbers up to 100."""
    return [[[(17 * k + 29 * i + 41 * j + 13 * i * j * k) % 101 for j in range(width)] for i in range(height)]
            for k in range(layers)]


def chance_cube(chance, layers, height, width, most):
    """A cube by chance, all of whose numbers together are so many at most."""
    cube = [[[0] * width for row in range(height)] for layer in range(layers)]
    for turn in range(most):
        cube[chance.randrange(layers)][chance.randrange(height)][chance.randrange(width)] += 1
    return cube


def faces_of(cube):
    """The three faces of a cube, cell by cell."""
    layers, height, width = len(cube), len(cube[0]), len(cube[0][0])
    front = [[0] * width for row in range(height)]
    side = [[0] * height for layer in range(layers)]
    top = [[0] * width for layer in range(layers)]
    for k, i, j in itertools.product(range(layers), range(height), range(width)):
        front[i][j] += cube[k][i][j]
        side[k][i] += cube[k][i][j]
        top[k][j] += cube[k][i][j]
    return front, side, top


def parts(total, many):
    """All ways to part a number among so many layers."""
    if many == 1:
        return [(total,)]
    return [(first,) + rest for first in range(total + 1) for rest in parts(total - first, many - 1)]


def all_cubes(front, side, top):
    """All cubes with these faces, gone through by parting each number of the front among the layers."""
    layers, height, width = len(side), len(front), len(front[0])
    found = []
    for numbers in itertools.product(*(parts(number, layers) for row in front for number in row)):
        cube = [[[numbers[i * width + j][k] for j in range(width)] for i in range(height)] for k in range(layers)]
        if faces_of(cube) == (front, side, top):
            found.append(cube)
    return sorted(found)


def cube_forms(cube):
    return [tuple(form) if at % 2 else list(form) for at, form in enumerate(zip(*(forms(layer) for layer in cube)))]


class Faces(unittest.TestCase):
    def test_by_hand(self):
        cube = [[[1, 2, 3], [4, 5, 6]], [[7, 8, 9], [10, 11, 12]]]
        self.assertEqual(faces(cube), ([[8, 10, 12], [14, 16, 18]], [[6, 15], [24, 33]], [[5, 7, 9], [17, 19, 21]]))
        self.assertEqual(faces([[[0]]]), ([[0]], [[0]], [[0]]))
        self.assertEqual(faces([[[100] * 3] * 3] * 3), ([[300] * 3] * 3,) * 3)

    def test_of_all_sizes(self):
        for size in SIZES:
            cube = made_cube(*size)
            for form in cube_forms(cube):
                kept = copy.deepcopy(form)
                answer = faces(form)
                self.assertEqual(answer, faces_of(cube))
                self.assertEqual(form, kept)
                self.assertIs(type(answer), tuple)
                for face in answer:
                    self.assertEqual({type(face)} | {type(row) for row in face}, {list})

    def test_what_is_no_cube(self):
        wrong = no_lists() + [[], (), [[]], [[[]]], [[[1]]] * 4, [[[1]] * 4], [[[1] * 4]], [[[1]], [[1, 1]]],
                              [[[1]], [[1], [1]]], [[[1, 1], [1]]], [[1]], [1], [[[[1]]]], [[[1]], [1]], [[[1]], None],
                              [endless_list()], [Hostile()], [[Hostile()]], [[[1, 1], [1, 1]], [[1, 1], [1]]], "1",
                              ["1"], [["1"]], [[[1]], []], [[[1]], [[]]], [[], [[1]]], [[[1], []]], [[[1], 1]]]
        for thing in no_lists():
            wrong += [[thing], [[thing]], [[[1]], thing], [[[1]], [thing]], [[[1], thing]]]
        for thing in no_numbers() + [-1, 101, 10 ** 12, 10 ** 59, -(10 ** 59), 10 ** 5000]:
            wrong += [[[[thing]]], [[[1]], [[thing]]], [[[1, thing]]], [[[1], [thing]]], (((thing,),),)]
        for thing in wrong:
            self.assertEqual(refusal(faces, thing), "NoCube")

    def test_what_is_told_is_the_askers_own(self):
        cube = [[[1, 2], [3, 4]]]
        front, side, top = faces(cube)
        front[0][0] = 99
        side.clear()
        top[0].append(5)
        self.assertEqual(cube, [[[1, 2], [3, 4]]])
        self.assertEqual(faces(cube), ([[1, 2], [3, 4]], [[3, 7]], [[4, 6]]))


class Cubes(unittest.TestCase):
    def check(self, front, side, top):
        with short_time():
            answer = cubes(front, side, top)
        self.assertEqual(answer, all_cubes(front, side, top))
        for cube in answer:
            self.assertEqual(faces(cube), (front, side, top))
        return answer

    def test_by_hand(self):
        self.assertEqual(cubes([[1, 1], [1, 1]], [[1, 1], [1, 1]], [[1, 1], [1, 1]]),
                         [[[[0, 1], [1, 0]], [[1, 0], [0, 1]]], [[[1, 0], [0, 1]], [[0, 1], [1, 0]]]])
        self.assertEqual(cubes([[0]], [[0]], [[0]]), [[[[0]]]])
        self.assertEqual(cubes([[12]], [[5], [7]], [[5], [7]]), [[[[5]], [[7]]]])

    def test_of_faces_of_cubes_of_all_sizes(self):
        chance = random.Random(8)
        several = 0
        for size in SIZES:
            # To go through all cubes by hand takes long where there are three layers of much.
            amounts = (0, 3, 6, 9, 12, 5, 7, 8, 10, 11, 12, 12) if size[0] < 3 else (0, 3, 5, 6, 7, 8, 9)
            for most in amounts:
                cube = chance_cube(chance, *size, most)
                answer = self.check(*faces_of(cube))
                self.assertIn(cube, answer)
                several += len(answer) > 1
        self.assertGreater(several, 15)

    def test_fronts_of_just_12_in_three_layers(self):
        flat = [[4, 4, 4]] * 3
        with short_time(60):
            answer = cubes([[1, 1, 2], [1, 2, 1], [2, 1, 1]], flat, flat)
            self.assertEqual(answer, [])
            front = [[1, 2, 1], [1, 1, 2], [2, 1, 1]]
            answer = cubes(front, [[1, 1, 2], [1, 2, 1], [2, 1, 1]], [[2, 1, 1], [1, 1, 2], [1, 2, 1]])
        self.assertEqual(answer, all_cubes(front, [[1, 1, 2], [1, 2, 1], [2, 1, 1]], [[2, 1, 1], [1, 1, 2], [1, 2, 1]]))
        self.assertGreater(len(answer), 10)
        self.assertEqual(answer, sorted(answer))

    def test_faces_of_unlike_numbers_of_rows_columns_and_layers(self):
        for layers, height, width in SIZES:
            front, side, top = faces_of(chance_cube(random.Random(9), layers, height, width, 5))
            self.assertTrue(cubes(front, side, top))
            for wrong in ((front + front[:1], side, top), ([row + [0] for row in front], side, top),
                          (front, side + side[:1], top), (front, [row + [0] for row in side], top),
                          (front, side, top + top[:1]), (front, side, [row + [0] for row in top])):
                self.assertEqual(refusal(cubes, *wrong), "NoFaces")

    def test_sums_that_do_not_agree(self):
        front, side, top = [[1, 1], [1, 1]], [[1, 1], [1, 1]], [[1, 1], [1, 1]]
        for wrong in ([[1, 1], [1, 2]], [[0, 1], [1, 1]], [[2, 0], [2, 0]], [[0, 2], [1, 1]], [[0, 0], [0, 0]],
                      [[3, 3], [3, 3]]):
            self.assertEqual(cubes(wrong, side, top), all_cubes(wrong, side, top))
            self.assertEqual(cubes(wrong, side, top), [])
            self.assertEqual(cubes(front, wrong, top), [])
            self.assertEqual(cubes(front, side, wrong), [])
        self.assertEqual(cubes(front, [[100, 100], [100, 100]], [[100, 100], [100, 100]]), [])
        self.assertEqual(cubes([[0]], [[1]], [[1]]), [])
        self.assertEqual(cubes([[1]], [[0]], [[0]]), [])
        self.assertEqual(cubes([[3]], [[1], [1]], [[1], [1]]), [])

    def test_all_faces_of_few(self):
        tables = [[list(row[:2]), list(row[2:])] for row in itertools.product(range(3), repeat=4) if sum(row) <= 2]
        for front, side, top in itertools.product(tables, repeat=3):
            self.assertEqual(cubes(front, side, top), all_cubes(front, side, top))


class Refused(unittest.TestCase):
    def test_fronts_of_more_than_12(self):
        for front in ([[13]], [[100]]):
            number = front[0][0]
            self.assertEqual(refusal(cubes, front, [[number]], [[number]]), "TooMany")
            self.assertEqual(refusal(cubes, front, [[0]], [[0]]), "TooMany")
        self.assertEqual(cubes([[12]], [[12]], [[12]]), [[[[12]]]])
        front = [[2, 1, 1], [1, 2, 1], [1, 1, 3]]
        self.assertEqual(refusal(cubes, front, [[4, 4, 5]], [[4, 4, 5]]), "TooMany")
        front[2][2] = 2
        self.assertEqual(cubes(front, [[4, 4, 4]], [[4, 4, 4]]), [[front]])
        self.assertEqual(refusal(cubes, [[100] * 3] * 3, [[100] * 3] * 3, [[100] * 3] * 3), "TooMany")
        # How much the other two faces have is not looked at.
        self.assertEqual(cubes([[12]], [[13]], [[13]]), [])

    def test_what_are_no_faces(self):
        wrong = no_lists() + wrong_tables() + [[], [[]], [[1]] * 4, [[1] * 4], [[1, 1], [1]], [[[1]]], [1]]
        for thing in no_numbers() + [-1, 101, 10 ** 12, 10 ** 59, -(10 ** 59), 10 ** 5000]:
            wrong += [[[thing]], ((thing,),)]
        for thing in wrong:
            for front in ([[1]], [[13]]):
                self.assertEqual(refusal(cubes, front, thing, [[1]]), "NoFaces")
                self.assertEqual(refusal(cubes, front, [[1]], thing), "NoFaces")
            self.assertEqual(refusal(cubes, thing, [[1]], [[1]]), "NoFaces")
            self.assertEqual(refusal(cubes, thing, thing, thing), "NoFaces")

    def test_one_number_that_is_none(self):
        faces_told = faces_of(chance_cube(random.Random(10), 2, 3, 2, 9))
        for at in range(3):
            for i, j in itertools.product(range(len(faces_told[at])), range(len(faces_told[at][0]))):
                for thing in (-1, 101, True, None, "1", [1]):
                    changed = copy.deepcopy(faces_told)
                    changed[at][i][j] = thing
                    self.assertEqual(refusal(cubes, *changed), "NoFaces")

    def test_no_faces_comes_ahead_of_too_many(self):
        self.assertEqual(refusal(cubes, [[13]], [[13, 0]], [[13]]), "NoFaces")
        self.assertEqual(refusal(cubes, [[13]], [[13]], [[13], [0]]), "NoFaces")
        self.assertEqual(refusal(cubes, [[13]], [[13]], [[101]]), "NoFaces")
        self.assertEqual(refusal(cubes, [[13, 101]], [[13]], [[13, 1]]), "NoFaces")


class Own(unittest.TestCase):
    def test_what_is_handed_in_stays_and_may_be_tuples(self):
        told = faces_of(chance_cube(random.Random(11), 3, 2, 3, 8))
        kept = copy.deepcopy(told)
        answer = cubes(*told)
        self.assertEqual(told, kept)
        for front, side, top in zip(*(forms(face) for face in told)):
            self.assertEqual(cubes(front, side, top), answer)
        refusal(cubes, told[0], told[1], told[2] + [[0]])
        self.assertEqual(told, kept)

    def test_changing_one_cube_changes_no_other_one(self):
        front, side = [[2, 1, 1], [1, 2, 1], [1, 1, 2]], [[2, 1, 1], [1, 2, 1], [1, 1, 2]]
        top = copy.deepcopy(side)
        answer = cubes(front, side, top)
        kept = copy.deepcopy(answer)
        self.assertGreater(len(answer), 2)
        self.assertTrue(any(one[0] == other[0] for one, other in itertools.combinations(answer, 2)))
        layers = [id(layer) for cube in answer for layer in cube]
        rows = [id(row) for cube in answer for layer in cube for row in layer]
        self.assertEqual((len(set(layers)), len(set(rows))), (len(layers), len(rows)))
        answer[0][0][0][0] = 99
        self.assertEqual(answer[1:], kept[1:])
        answer[1].clear()
        self.assertEqual(cubes(front, side, top), kept)
        front[0][0] = side[0][0] = 0
        self.assertEqual(answer[2:], kept[2:])


if __name__ == "__main__":
    unittest.main()
