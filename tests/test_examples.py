"""The examples at the end of the document."""

import unittest

from helpers import fields_of
from strewfar.blocks import reverse
from strewfar.errors import ParseError
from strewfar.lattices import solutions
from strewfar.parts import Parts
from strewfar.places import add, scale
from strewfar.tongue import format_block, parse_block
from strewfar.trails import trail_of


class Examples(unittest.TestCase):
    def test_places(self):
        self.assertEqual([add((1, 2), (3, -5)), scale(-2, (1, 0))], [(4, -3), (-2, 0)])

    def test_blocks(self):
        self.assertEqual(reverse((("go", (1,)), ("put", 3), ("do", "a"))), (("undo", "a"), ("put", -3), ("go", (-1,))))

    def test_tongue(self):
        self.assertEqual(format_block((("go", (1, 0)), ("repeat", 2, (("put", -3),)))), "go 1 0; repeat 2 { put -3 }")
        self.assertEqual(fields_of(parse_block, "put 5 go 1", 1), (ParseError, 6))

    def test_lattices(self):
        self.assertEqual(solutions([(2,), (3,)], [10, 10], (12,)), (3, (0, 4), (6, 0)))

    def test_trails(self):
        trail = trail_of(Parts.empty(1), (("repeat", 10 ** 30, (("put", 1), ("go", (2,)))),))
        self.assertEqual([trail.beats, trail.shift, trail.visits((8,))],
                         [2000000000000000000000000000000, (2000000000000000000000000000000,), (1, 8, 8)])

    def test_effects(self):
        inner = (("repeat", 4, (("put", 1), ("go", (1,)))), ("go", (-3,)))
        effect = trail_of(Parts.empty(1), (("repeat", 3, inner),)).effect()
        self.assertEqual([effect.amount((2,)), effect.amount((5,)), effect.total], [3, 1, 12])


if __name__ == "__main__":
    unittest.main()
