"""Point 3 and the section strewfar/places.py."""

import unittest

from strewfar import places
from strewfar.places import add, is_forward, is_place, opposite, origin, residue, scale

HUGE = 10 ** 45 + 7


class Forms(unittest.TestCase):
    def test_greatest_dimension(self):
        self.assertEqual(places.MAX_DIMENSION, 3)

    def test_tuples_of_each_length_for_each_dimension(self):
        for length in range(6):
            thing = tuple(range(-1, length - 1))
            for dimension in range(1, 4):
                with self.subTest(thing=thing, dimension=dimension):
                    self.assertIs(is_place(thing, dimension), length == dimension)

    def test_lists_are_not_places(self):
        for length in range(6):
            for dimension in range(1, 4):
                with self.subTest(length=length, dimension=dimension):
                    self.assertIs(is_place([0] * length, dimension), False)

    def test_booleans_are_not_numbers(self):
        for thing in ((True,), (False,)):
            self.assertIs(is_place(thing, 1), False)
        for thing in ((True, 1), (1, True), (0, False), (False, False)):
            self.assertIs(is_place(thing, 2), False)
        for thing in ((1, 2, True), (1, False, 3), (True, 2, 3)):
            self.assertIs(is_place(thing, 3), False)
        for thing in ([True], [False]):
            self.assertIs(is_place(thing, 1), False)

    def test_elements_of_any_size(self):
        self.assertIs(is_place((HUGE,), 1), True)
        self.assertIs(is_place((-(10 ** 5000), 0), 2), True)

    def test_origin(self):
        self.assertEqual([origin(1), origin(2), origin(3)], [(0,), (0, 0), (0, 0, 0)])
        self.assertIs(is_place(origin(3), 3), True)


class Sums(unittest.TestCase):
    def test_one_place(self):
        for place in ((4,), (4, -5), (4, -5, 0)):
            self.assertEqual(add(place), place)

    def test_two_places(self):
        self.assertEqual(add((1,), (2,)), (3,))
        self.assertEqual(add((1, 2), (3, -5)), (4, -3))
        self.assertEqual(add((1, 2, 3), (-1, -2, -3)), (0, 0, 0))

    def test_three_to_six_places(self):
        for count in range(3, 7):
            for dimension in range(1, 4):
                rows = [tuple((-2) ** (row + column) for column in range(dimension)) for row in range(count)]
                expected = tuple(sum(row[column] for row in rows) for column in range(dimension))
                with self.subTest(rows=rows):
                    self.assertEqual(add(*rows), expected)
                    self.assertIsInstance(add(*rows), tuple)

    def test_large_elements(self):
        self.assertEqual(add((HUGE, -HUGE), (HUGE, 1)), (2 * HUGE, 1 - HUGE))
        self.assertEqual(add((HUGE,), (-HUGE,)), (0,))

    def test_multiples(self):
        self.assertEqual(scale(-2, (1, 0)), (-2, 0))
        self.assertEqual(scale(0, (5, -6, 7)), (0, 0, 0))
        self.assertEqual(scale(1, (5, -6, 7)), (5, -6, 7))
        self.assertEqual(scale(-1, (5, -6, 7)), (-5, 6, -7))
        self.assertEqual(scale(3, (4,)), (12,))
        self.assertEqual(scale(HUGE, (HUGE, -1)), (HUGE * HUGE, -HUGE))

    def test_opposite(self):
        self.assertEqual(opposite((3,)), (-3,))
        self.assertEqual(opposite((3, -4)), (-3, 4))
        self.assertEqual(opposite((0, HUGE, -HUGE)), (0, -HUGE, HUGE))
        self.assertEqual(opposite((0, 0)), (0, 0))


class Directions(unittest.TestCase):
    def test_origins_are_not_forward(self):
        for dimension in range(1, 4):
            self.assertIs(is_forward(origin(dimension)), False)

    def test_forward_vectors(self):
        for vector in ((1,), (1, -9), (0, 1), (2, -1, -1), (0, 3, -9), (0, 0, 1), (HUGE, -HUGE)):
            with self.subTest(vector=vector):
                self.assertIs(is_forward(vector), True)
                self.assertIs(is_forward(opposite(vector)), False)


class Residues(unittest.TestCase):
    def test_ordinary_residues(self):
        self.assertEqual(residue((7,), [3]), (1,))
        self.assertEqual(residue((7, 8), [5, 4]), (2, 0))
        self.assertEqual(residue((7, 8, 9), [1, 10, 9]), (0, 8, 0))

    def test_negative_elements(self):
        self.assertEqual(residue((-1,), [3]), (2,))
        self.assertEqual(residue((-7, -6, -8), [7, 7, 7]), (0, 1, 6))

    def test_moduli_in_a_tuple(self):
        self.assertEqual(residue((-1, 5), (3, 4)), (2, 1))

    def test_large_elements(self):
        self.assertEqual(residue((HUGE, -HUGE), [10, 10]), (7, 3))

    def test_the_residues_are_a_tuple(self):
        self.assertIsInstance(residue((1, 2), [2, 2]), tuple)


class Calls(unittest.TestCase):
    def test_parameters_by_keyword(self):
        self.assertIs(is_place(thing=(1,), dimension=1), True)
        self.assertEqual(origin(dimension=2), (0, 0))
        self.assertEqual(add(one=(1, 2)), (1, 2))
        self.assertEqual(scale(number=2, place=(1,)), (2,))
        self.assertEqual(opposite(place=(1,)), (-1,))
        self.assertIs(is_forward(vector=(1,)), True)
        self.assertEqual(residue(place=(5,), moduli=[3]), (2,))

    def test_arguments_are_not_modified(self):
        moduli = [3, 4]
        thing = [1, True]
        residue((-1, -1), moduli)
        is_place(thing, 2)
        self.assertEqual(moduli, [3, 4])
        self.assertEqual(thing, [1, True])
        self.assertIs(thing[1], True)


if __name__ == "__main__":
    unittest.main()
