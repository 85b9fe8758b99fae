"""Point 12 and the section strewfar/lattices.py."""

import itertools
import math
import unittest

from helpers import Dice, fields_of, rank
from strewfar.errors import Overload
from strewfar.lattices import relations, solutions

FAR = 10 ** 30
NOTHING = (0, None, None)


def summed(rounds, vectors, width):
    return tuple(sum(many * vector[axis] for many, vector in zip(rounds, vectors)) for axis in range(width))


def some_vector(dice, width, size):
    """Return a vector, now and then the origin, with elements from -size to size."""
    if dice.roll(8) == 0:
        return (0,) * width
    return tuple(dice.roll(2 * size + 1) - size for _ in range(width))


def some_vectors(dice, many, width, size):
    """Return vectors, often multiples or sums of earlier ones."""
    vectors = []
    for _ in range(many):
        kind = dice.roll(3) if vectors else 0
        vector = some_vector(dice, width, size)
        if kind == 1:
            vector = tuple((dice.roll(5) - 2) * item for item in vectors[-1])
        elif kind == 2:
            vector = tuple(one - other for one, other in zip(vectors[0], vectors[-1]))
        vectors.append(vector)
    return vectors


class Relations(unittest.TestCase):
    def test_none(self):
        self.assertEqual(relations([]), 0)
        self.assertEqual(relations(()), 0)
        for vector in ((1,), (-5,), (0, 3), (0, 0, 0, 0, 0, -7)):
            self.assertEqual(relations([vector]), 0)
        self.assertEqual(relations([(1, 0), (0, 1)]), 0)
        self.assertEqual(relations([(2, 4, 6), (1, 2, 4)]), 0)

    def test_vectors_of_zeros(self):
        for width in range(1, 7):
            for many in range(1, 9):
                self.assertEqual(relations([(0,) * width] * many), many)
        self.assertEqual(relations([(0, 0), (1, 2), (0, 0)]), 2)
        self.assertEqual(relations([(1, 2), (0, 0), (1, 3)]), 1)

    def test_some(self):
        self.assertEqual(relations([(2,), (3,)]), 1)
        self.assertEqual(relations([(2,), (3,), (5,)]), 2)
        self.assertEqual(relations([(1, 2), (-2, -4)]), 1)
        self.assertEqual(relations([(1, 2), (2, 4), (3, 6)]), 2)
        self.assertEqual(relations([(1, 2), (2, 4), (3, 5)]), 1)
        self.assertEqual(relations([(1, 0, 0), (0, 1, 0), (1, 1, 0)]), 1)
        self.assertEqual(relations(((1, 2), (1, 2))), 1)

    def test_five_to_eight_vectors(self):
        dice = Dice(12)
        counts = {}
        for _ in range(600):
            many, width, size = 5 + dice.roll(4), 1 + dice.roll(6), (2, 9, 10 ** 9)[dice.roll(3)]
            vectors = some_vectors(dice, many, width, size)
            expected = many - rank(vectors)
            counts[expected] = counts.get(expected, 0) + 1
            with self.subTest(vectors=vectors):
                self.assertEqual(relations(vectors), expected)
        self.assertGreaterEqual(len(counts), 7)

    def test_vectors_that_are_free_of_relations(self):
        for many in range(1, 7):
            vectors = [tuple(int(axis >= index) * (index + 2) ** axis for axis in range(6)) for index in range(many)]
            self.assertEqual(relations(vectors), 0)
            self.assertEqual(relations([*vectors, summed(range(2, many + 2), vectors, 6)]), 1)

    def test_far_vectors(self):
        big = 10 ** 59 + 7
        self.assertEqual(relations([(big, big + 1), (big + 1, big + 2)]), 0)
        self.assertEqual(relations([(big, 2 * big), (big + 1, 2 * big + 2)]), 1)
        vectors = [tuple((big + 3 ** k) ** (axis + 1) for axis in range(6)) for k in range(8)]
        self.assertEqual(relations(vectors), 2)


class Solutions(unittest.TestCase):
    def check(self, vectors, times, target):
        """Compare with all tuples of rounds."""
        tied = len(vectors) - rank(vectors)
        with self.subTest(vectors=vectors, times=times, target=target):
            if tied > 1:
                self.assertEqual(fields_of(solutions, vectors, times, target), (Overload, tied))
                return tied
            found = [rounds for rounds in itertools.product(*[range(many) for many in times])
                     if summed(rounds, vectors, len(target)) == target]
            expected = (len(found), found[0], found[-1]) if found else NOTHING
            self.assertEqual(solutions(vectors, times, target), expected)
            return tied

    def test_against_all_rounds(self):
        dice = Dice(4)
        seen = {0: 0, 1: 0}
        for _ in range(1200):
            many, width, size = 1 + dice.roll(4), 1 + dice.roll(6), 1 + dice.roll(4)
            vectors = some_vectors(dice, many, width, size)
            times = [1 + dice.roll(6) for _ in vectors]
            rounds = [dice.roll(most) for most in times]
            tied = self.check(vectors, times, summed(rounds, vectors, width))
            self.check(vectors, times, some_vector(dice, width, 2 * size))
            self.check(vectors, times, summed([most for most in times], vectors, width))
            self.check(vectors, times, summed([dice.roll(2 * most) - most for most in times], vectors, width))
            seen[tied] = seen.get(tied, 0) + 1
        self.assertGreater(min(seen[0], seen[1], seen[2], seen[3]), 25)

    def test_all_targets_of_a_few_vectors(self):
        for vectors, times in (([(2,), (3,)], [4, 5]), ([(-2,), (3,)], [4, 5]), ([(2,), (-4,)], [5, 3]),
                               ([(0,)], [4]), ([(1,)], [1]), ([(6,), (4,)], [3, 4]), ([(5,)], [6])):
            for target in range(-25, 26):
                self.check(vectors, times, (target,))
        for vectors, times in (([(1, 0), (0, 1), (1, 1)], [3, 4, 3]), ([(2, 1), (1, -2)], [3, 3]),
                               ([(0, 0), (2, 1)], [5, 3]), ([(-1, 2), (2, -4), (0, 3)], [4, 3, 2])):
            for target in itertools.product(range(-9, 10), repeat=2):
                self.check(vectors, times, target)

    def test_an_example(self):
        self.assertEqual(solutions([(2,), (3,)], [10, 10], (12,)), (3, (0, 4), (6, 0)))

    def test_no_vectors(self):
        for width in range(1, 7):
            self.assertEqual(solutions([], [], (0,) * width), (1, (), ()))
            self.assertEqual(solutions((), (), (0,) * width), (1, (), ()))
            self.assertEqual(solutions([], [], (0,) * (width - 1) + (3,)), NOTHING)
            self.assertEqual(solutions([], [], (-1,) + (0,) * (width - 1)), NOTHING)

    def test_the_least_and_the_greatest_are_ordered_as_tuples(self):
        self.assertEqual(solutions([(1,), (1,)], [3, 3], (2,)), (3, (0, 2), (2, 0)))
        self.assertEqual(solutions([(1,), (-1,)], [3, 3], (0,)), (3, (0, 0), (2, 2)))
        self.assertEqual(solutions([(1, 0), (1, 1), (0, 1)], [9, 9, 9], (4, 4)), (5, (0, 4, 0), (4, 0, 4)))
        self.assertEqual(solutions([(0, 0), (1, 2)], [7, 9], (4, 8)), (7, (0, 4), (6, 4)))

    def test_a_tuple_is_returned(self):
        for found in (solutions([(1,)], [2], (1,)), solutions([(1,)], [2], (2,))):
            self.assertIsInstance(found, tuple)
        self.assertIsInstance(solutions([(1,)], [2], (1,))[1], tuple)
        self.assertIsInstance(solutions([(1,)], [2], (1,))[2], tuple)

    def test_rounds_end_one_below_the_times(self):
        self.assertEqual(solutions([(5,)], [FAR], (5 * (FAR - 1),)), (1, (FAR - 1,), (FAR - 1,)))
        self.assertEqual(solutions([(5,)], [FAR], (5 * FAR,)), NOTHING)
        self.assertEqual(solutions([(5,)], [FAR], (-5,)), NOTHING)
        self.assertEqual(solutions([(5,)], [FAR], (7,)), NOTHING)

    def test_too_many_relations(self):
        self.assertEqual(fields_of(solutions, [(0,), (0,)], [1, 1], (0,)), (Overload, 2))
        self.assertEqual(fields_of(solutions, [(2,), (3,), (4,)], [5, 5, 5], (1,)), (Overload, 2))
        self.assertEqual(fields_of(solutions, [(2, 2)] * 4, [5] * 4, (1, 0)), (Overload, 3))
        self.assertEqual(fields_of(solutions, [(0, 0, 0)] * 8, [FAR] * 8, (1, 0, 0)), (Overload, 8))
        self.assertEqual(fields_of(solutions, [(1, 0), (0, 1), (1, 1), (0, 0)], [1] * 4, (9, 9)), (Overload, 2))


class FarSolutions(unittest.TestCase):
    def cases(self, many):
        dice = Dice(30)
        found = 0
        while found < many:
            width = 1 + dice.roll(3)
            vectors = some_vectors(dice, 1 + dice.roll(4), width, 10 ** dice.roll(13))
            if len(vectors) - rank(vectors) > 1:
                continue
            times = [1 + self.far(dice) for _ in vectors]
            rounds = [self.far(dice) % most for most in times]
            yield dice, vectors, times, summed(rounds, vectors, width)
            found += 1

    def far(self, dice):
        return dice.roll(10 ** 9) * 10 ** dice.roll(21) + dice.roll(10 ** 9)

    def test_the_ends_are_ends(self):
        longer = 0
        for _, vectors, times, target in self.cases(400):
            number, least, greatest = solutions(vectors, times, target)
            with self.subTest(vectors=vectors, times=times, target=target):
                for rounds in (least, greatest):
                    self.assertTrue(all(0 <= many < most for many, most in zip(rounds, times)))
                    self.assertEqual(summed(rounds, vectors, len(target)), target)
                self.assertLessEqual(least, greatest)
                between = [high - low for low, high in zip(least, greatest)]
                # All rounds stand on a line, evenly: as many steps fit as the differences have in common.
                self.assertEqual(math.gcd(*between), number - 1)
                if number > 1:
                    longer += 1
                    step = [item // (number - 1) for item in between]
                    for beyond in ([low - by for low, by in zip(least, step)],
                                   [high + by for high, by in zip(greatest, step)]):
                        self.assertFalse(all(0 <= many < most for many, most in zip(beyond, times)))
        self.assertGreater(longer, 50)

    def test_one_number_of_rounds_parted_in_two(self):
        for dice, vectors, times, target in self.cases(400):
            index = dice.roll(len(vectors))
            front = self.far(dice) % times[index]
            if front == 0:
                continue
            rest = tuple(item - front * by for item, by in zip(target, vectors[index]))
            whole = solutions(vectors, times, target)
            one = solutions(vectors, [*times[:index], front, *times[index + 1:]], target)
            other = solutions(vectors, [*times[:index], times[index] - front, *times[index + 1:]], rest)
            with self.subTest(vectors=vectors, times=times, target=target):
                self.assertEqual(one[0] + other[0], whole[0])

    def test_known_numbers(self):
        self.assertEqual(solutions([(1,), (1,)], [FAR, FAR], (FAR - 1,)), (FAR, (0, FAR - 1), (FAR - 1, 0)))
        self.assertEqual(solutions([(2,), (3,)], [FAR, FAR], (6 * 10 ** 29,)),
                         (10 ** 29 + 1, (0, 2 * 10 ** 29), (3 * 10 ** 29, 0)))
        step = 10 ** 12
        self.assertEqual(solutions([(step,), (step - 1,)], [FAR, FAR], (step * (step - 1),)),
                         (2, (0, step), (step - 1, 0)))
        self.assertEqual(solutions([(step, -step), (0, 0)], [FAR, FAR], (step * 7, -step * 7)),
                         (FAR, (7, 0), (7, FAR - 1)))

    def test_targets_between(self):
        step = 10 ** 12
        self.assertEqual(solutions([(step,), (step * 3,)], [FAR, FAR], (step * 10 ** 20 + 1,)), NOTHING)
        self.assertEqual(solutions([(step, 0), (0, step)], [FAR, FAR], (step * 5, step * 4 + 1)), NOTHING)
        self.assertEqual(solutions([(1, 1)], [FAR], (5, 6)), NOTHING)

    def test_targets_of_any_size(self):
        far = 10 ** 5000
        self.assertEqual(solutions([(far,)], [FAR], (far * 17,)), (1, (17,), (17,)))
        self.assertEqual(solutions([(far,), (far + 1,)], [far * 2, far * 2], (far * (far + 1),)),
                         (2, (0, far), (far + 1, 0)))


class Calls(unittest.TestCase):
    def test_parameters_by_keyword(self):
        self.assertEqual(relations(vectors=[(1,), (2,)]), 1)
        self.assertEqual(solutions(vectors=[(2,)], times=[3], target=(4,)), (1, (2,), (2,)))

    def test_arguments_are_not_modified(self):
        vectors, times = [(2, 4), (4, 8), (1, 1)], [5, 6, 7]
        relations(vectors)
        solutions(vectors, times, (9, 13))
        self.assertEqual((vectors, times), ([(2, 4), (4, 8), (1, 1)], [5, 6, 7]))

    def test_tuples_in_place_of_lists(self):
        self.assertEqual(relations(((1,), (2,), (0,))), 2)
        self.assertEqual(solutions(((2,), (3,)), (10, 10), (12,)), (3, (0, 4), (6, 0)))


if __name__ == "__main__":
    unittest.main()
