"""The examples at the end of the document."""

import unittest

from helpers import fields_of
from strewfar.beats import split, walk
from strewfar.blocks import reverse
from strewfar.books import Book
from strewfar.compare import difference, exponent
from strewfar.crews import Crew, LateWalker, Walker
from strewfar.desks import Desk
from strewfar.errors import InUse, ParseError
from strewfar.lattices import solutions
from strewfar.parts import Parts
from strewfar.places import add, scale
from strewfar.residues import offset, residue_sums
from strewfar.tables import table
from strewfar.tongue import format_block, parse_block
from strewfar.trails import trail_of


class Examples(unittest.TestCase):
    def test_places(self):
        self.assertEqual([add((1, 2), (3, -5)), scale(-2, (1, 0))], [(4, -3), (-2, 0)])

    def test_blocks(self):
        self.assertEqual(reverse((("go", (1,)), ("put", 3), ("do", "a"))), (("undo", "a"), ("put", -3), ("go", (-1,))))

    def test_tongue(self):
        self.assertEqual(format_block((("go", (1, 0)), ("repeat", 2, (("put", -3),)))), "go 1 0; repeat 2 { put -3 }")
        self.assertEqual(fields_of(parse_block, "put 5 go 1", 1), (ParseError, 6))

    def test_lattices(self):
        self.assertEqual(solutions([(2,), (3,)], [10, 10], (12,)), (3, (0, 4), (6, 0)))

    def test_trails(self):
        trail = trail_of(Parts.empty(1), (("repeat", 10 ** 30, (("put", 1), ("go", (2,)))),))
        self.assertEqual([trail.beats, trail.shift, trail.visits((8,))],
                         [2000000000000000000000000000000, (2000000000000000000000000000000,), (1, 8, 8)])

    def test_effects(self):
        inner = (("repeat", 4, (("put", 1), ("go", (1,)))), ("go", (-3,)))
        effect = trail_of(Parts.empty(1), (("repeat", 3, inner),)).effect()
        self.assertEqual([effect.amount((2,)), effect.amount((5,)), effect.total], [3, 1, 12])

    def test_compare(self):
        parts = Parts(1, {"a": (("put", 1), ("go", (2,)))})
        six = trail_of(parts, (("repeat", 6, (("do", "a"),)),)).effect()
        seven = trail_of(parts, (("do", "a"),) * 7).effect()
        self.assertEqual(difference(six, seven), (((12,), -1), ((12,), -1)))
        one = trail_of(parts, (("do", "a"),)).effect()
        self.assertEqual(exponent(one, trail_of(parts, (("undo", "a"),) * 5).effect()), -5)

    def test_residues(self):
        parts = Parts(1, {"a": (("put", 1), ("go", (2,)))})
        self.assertEqual(residue_sums(trail_of(parts, (("do", "a"),) * 5).effect(), (3,)),
                         [((0,), 2), ((1,), 1), ((2,), 2)])
        one = trail_of(Parts.empty(1), (("put", 1), ("go", (3,)))).effect()
        other = trail_of(Parts.empty(1), (("go", (2,)), ("put", 1), ("go", (1,)))).effect()
        self.assertEqual(offset(one, other), 1)

    def test_beats(self):
        parts = Parts(1, {"a": (("put", 1), ("go", (2,)))})
        front, back = split(parts, (("do", "a"),) * 3, 3)
        self.assertEqual([front.shift, front.beats, back.beats], [(2,), 3, 3])
        self.assertEqual(list(walk(Parts.empty(1), (("repeat", 10 ** 30, (("put", 7), ("go", (1,)))),), limit=4)),
                         [(0, (0,), 7), (2, (1,), 7)])

    def test_crews(self):
        crew = Crew(Parts(1, {"a": (("put", 1), ("go", (1,)))}))
        crew.join(Walker("a", (0,)), LateWalker("a", (5,), delay=3))
        self.assertEqual([crew.places(2), crew.last(), len(crew)], [[(1,), (5,)], 5, 2])

    def test_books(self):
        book = Book(1)
        book.define("a", (("put", 1),))
        book.define("b", (("do", "a"),))
        self.assertEqual(fields_of(book.drop, "a"), (InUse, "b"))

    def test_desks(self):
        desk = Desk(dimension=1)
        self.assertEqual([desk.ask("define a put 2; go 1"), desk.ask("amount a 0"), desk.ask("amount a"),
                          desk.ask("drop b")], ["ok", "2", "what", "error UnknownName"])

    def test_tables(self):
        self.assertEqual(table(Parts(1, {"a": (("put", 1500), ("go", (3,)))})),
                         "a                     2          1,500 3\n")


if __name__ == "__main__":
    unittest.main()
