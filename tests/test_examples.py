"""The examples at the end of the document."""

import unittest

from helpers import fields_of
from strewfar.blocks import reverse
from strewfar.errors import ParseError
from strewfar.places import add, scale
from strewfar.tongue import format_block, parse_block


class Examples(unittest.TestCase):
    def test_places(self):
        self.assertEqual([add((1, 2), (3, -5)), scale(-2, (1, 0))], [(4, -3), (-2, 0)])

    def test_blocks(self):
        self.assertEqual(reverse((("go", (1,)), ("put", 3), ("do", "a"))), (("undo", "a"), ("put", -3), ("go", (-1,))))

    def test_tongue(self):
        self.assertEqual(format_block((("go", (1, 0)), ("repeat", 2, (("put", -3),)))), "go 1 0; repeat 2 { put -3 }")
        self.assertEqual(fields_of(parse_block, "put 5 go 1", 1), (ParseError, 6))


if __name__ == "__main__":
    unittest.main()
