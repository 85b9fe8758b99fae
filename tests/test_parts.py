"""Point 6 and the section strewfar/parts.py."""

import unittest

from helpers import Dice, fields_of, nested, within_loops
from strewfar import parts as module
from strewfar.errors import (CapacityExceeded, Circular, InvalidBlock, InvalidName, TooDeep, TooLong, TooMany,
                             UnknownName, WrongDimension)
from strewfar.parts import Parts

PUT = (("put", 1),)
LONG = PUT * 61
NAMES = "abcdefghijklmnop"


def made(blocks, dimension=1):
    """Return the error that the parts raise, or None."""
    return fields_of(Parts, dimension, blocks)


def around(levels, block):
    """Return a block in so many loops within one another."""
    for _ in range(levels):
        block = (("repeat", 3, block),)
    return block


def doing(*names):
    return tuple(("do", name) for name in names)


def inlined(blocks, block):
    """Return a block with the blocks of parts in place of their names: only their loops and puts are right."""
    found = ()
    for statement in block:
        if statement[0] in ("do", "undo"):
            found += inlined(blocks, blocks[statement[1]])
        elif statement[0] == "repeat":
            found += (("repeat", statement[1], inlined(blocks, statement[2])),)
        else:
            found += (statement,)
    return found


def depth_of(block):
    return max([1 + depth_of(statement[2]) for statement in block if statement[0] == "repeat"], default=0)


def puts_of(block):
    nested_puts = [puts_of(statement[2]) for statement in block if statement[0] == "repeat"]
    return sum(nested_puts) + len([statement for statement in block if statement[0] == "put"])


class Dimensions(unittest.TestCase):
    def test_bounds(self):
        self.assertEqual((module.MAX_PARTS, module.MAX_DEPTH, module.MAX_PUTS), (12, 6, 60))

    def test_right_dimensions(self):
        for dimension in (1, 2, 3):
            self.assertEqual(Parts(dimension, {}).dimension, dimension)
            self.assertEqual(Parts.empty(dimension).dimension, dimension)
            self.assertEqual(Parts(dimension, {"a": (("go", (1,) * dimension),)}).dimension, dimension)

    def test_wrong_dimensions(self):
        for dimension in (0, 4, -1, -3, 10 ** 59):
            self.assertEqual(fields_of(Parts, dimension, {}), (WrongDimension, dimension))
            self.assertEqual(fields_of(Parts.empty, dimension), (WrongDimension, dimension))

    def test_vectors_of_another_dimension(self):
        for dimension in (1, 2, 3):
            for other in {1, 2, 3} - {dimension}:
                self.assertEqual(made({"a": (("put", 1), ("go", (1,) * other))}, dimension), (InvalidBlock, (1,)))


class Capacity(unittest.TestCase):
    def test_twelve_parts(self):
        self.assertIsNone(made({name: PUT for name in NAMES[:12]}))
        self.assertEqual(len(Parts(1, {name: PUT for name in NAMES[:12]}).names()), 12)

    def test_more_parts(self):
        for many in (13, 14, 16):
            self.assertEqual(made({name: PUT for name in NAMES[:many]}), (CapacityExceeded, 12))


class Refused(unittest.TestCase):
    def test_names(self):
        for name in ("", "A", "aB", "abcdefghi", "a b", "a1", "a\n", "\u00e9", "do it"):
            with self.subTest(name=name):
                self.assertEqual(made({"b": PUT, name: PUT}), (InvalidName, name))
        self.assertIsNone(made({"abcdefgh": PUT, "a": PUT, "do": PUT}))

    def test_blocks(self):
        for wrong in ("", ("put", True), ("put", 10 ** 12 + 1), ("go", (1, 2)), ("do", "A"), ("repeat", 2, 3)):
            for loops in ((), (2,), (0, 1)):
                block = within_loops((("put", 1), wrong), loops)
                with self.subTest(block=block):
                    self.assertEqual(made({"last": PUT, "b": block}), (InvalidBlock, (*loops, 1)))

    def test_long_blocks(self):
        self.assertIsNone(made({"a": PUT * 60}))
        self.assertEqual(made({"a": LONG}), (TooLong, 60))
        self.assertEqual(made({"a": (("repeat", 1, PUT * 60),)}), (TooLong, 60))

    def test_unknown_names(self):
        self.assertEqual(made({"a": doing("b")}), (UnknownName, "b"))
        self.assertEqual(made({"a": (("undo", "b"),)}), (UnknownName, "b"))
        self.assertEqual(made({"a": around(2, doing("b", "c")), "b": PUT}), (UnknownName, "c"))
        self.assertEqual(made({"a": (("repeat", 0, doing("z")), ("do", "b"))}), (UnknownName, "z"))

    def test_parts_that_use_themselves(self):
        self.assertEqual(made({"a": doing("a")}), (Circular, "a"))
        self.assertEqual(made({"a": (("undo", "a"),)}), (Circular, "a"))
        self.assertEqual(made({"a": (("repeat", 0, doing("a")),)}), (Circular, "a"))
        self.assertEqual(made({"a": doing("b"), "b": doing("a")}), (Circular, "a"))
        self.assertEqual(made({"a": doing("b"), "b": around(1, doing("c")), "c": (("undo", "a"),)}), (Circular, "a"))

    def test_parts_that_use_one_that_uses_itself(self):
        self.assertEqual(made({"a": doing("b"), "b": doing("b")}), (Circular, "b"))
        self.assertEqual(made({"a": doing("c"), "b": doing("c"), "c": doing("d"), "d": doing("c")}), (Circular, "c"))
        self.assertEqual(made({"a": doing("e"), "b": PUT, "c": doing("d", "a"), "d": doing("c"), "e": ()}),
                         (Circular, "c"))

    def test_parts_used_in_several_ways_are_not_circular(self):
        self.assertIsNone(made({"a": doing("b", "c"), "b": doing("d"), "c": doing("d", "b"), "d": PUT}))
        self.assertIsNone(made({"d": doing("b", "c"), "c": doing("a"), "b": doing("a", "c"), "a": PUT}))

    def test_depths(self):
        for depth in (5, 6, 7, 8):
            expected = None if depth <= 6 else (TooDeep, 6)
            self.assertEqual(made({"a": around(depth, PUT)}), expected)
            self.assertEqual(made({"a": nested(depth)}), expected)
            self.assertEqual(made({"a": around(depth - 3, doing("b")), "b": nested(3)}), expected)
            self.assertEqual(made({"b": around(2, (("undo", "a"),)), "a": around(depth - 2, PUT)}), expected)
            self.assertEqual(made({"c": around(1, doing("b")), "b": around(depth - 2, doing("a")), "a": nested(1)}),
                             expected)
            self.assertEqual(made({"a": (("repeat", 0, nested(depth - 1)),)}), expected)

    def test_puts(self):
        for puts in (59, 60):
            self.assertIsNone(made({"a": PUT * puts}))
        for puts in (59, 60, 61, 62):
            expected = None if puts <= 60 else (TooMany, 60)
            self.assertEqual(made({"a": PUT * (puts - 20) + doing("b"), "b": PUT * 20}), expected)
            self.assertEqual(made({"b": PUT * (puts - 40) + (("do", "a"), ("undo", "a")), "a": PUT * 20}), expected)
            self.assertEqual(made({"c": (("repeat", 0, doing("b")),) + PUT * (puts - 30),
                                   "b": doing("a", "a", "a"), "a": PUT * 10}), expected)

    def test_loops_count_once(self):
        self.assertIsNone(made({"a": (("repeat", 10 ** 30, PUT * 59),)}))
        self.assertIsNone(made({"a": (("repeat", 10 ** 30, doing("b")),), "b": (("repeat", -10 ** 30, PUT * 59),)}))

    def test_depths_of_long_chains(self):
        # Each block alone is within the limits of blocks, but all of them together are 12 * 59 loops deep.
        blocks = {name: around(59, doing(NAMES[index + 1])) for index, name in enumerate(NAMES[:11])}
        self.assertEqual(made({**blocks, NAMES[11]: nested(60)}), (TooDeep, 6))

    def test_puts_of_long_chains(self):
        blocks = {name: doing(NAMES[index + 1]) * 60 for index, name in enumerate(NAMES[:11])}
        self.assertEqual(made({**blocks, NAMES[11]: PUT * 60}), (TooMany, 60))
        parts = Parts(1, {**blocks, NAMES[11]: (("go", (1,)),) * 60})
        self.assertEqual((parts.depth(doing("a") * 60), parts.puts(doing("a") * 60)), (0, 0))


class Order(unittest.TestCase):
    many = {f"{name}{name}": PUT for name in NAMES[:10]}
    deep = nested(7)
    crowd = (("repeat", 2, PUT * 40), ("do", "puts"))
    known = {"puts": PUT * 30}

    def test_the_dimension_then_the_number_of_parts(self):
        self.assertEqual(made({name: LONG for name in NAMES[:13]}, 4), (WrongDimension, 4))
        self.assertEqual(made({name.upper(): ("",) for name in NAMES[:13]}), (CapacityExceeded, 12))
        self.assertEqual(made({**{name: doing("z") for name in NAMES[:12]}, "A": LONG}), (CapacityExceeded, 12))

    def test_names_blocks_and_lengths_part_by_part(self):
        self.assertEqual(made({"a": ("",), "B": ("",), "c": LONG}), (InvalidName, "B"))
        self.assertEqual(made({"a": ("",), "aB": PUT}), (InvalidBlock, (0,)))
        self.assertEqual(made({"a": LONG, "b": ("",)}), (TooLong, 60))
        self.assertEqual(made({"b": ("",), "a": LONG}), (TooLong, 60))
        self.assertEqual(made({"a": PUT, "b": LONG, "b1": PUT}), (TooLong, 60))
        self.assertEqual(made({"a": LONG + ("",)}), (InvalidBlock, (61,)))
        self.assertEqual(made({"": ("",), "a": LONG}), (InvalidName, ""))

    def test_forms_before_unknown_names(self):
        self.assertEqual(made({"a": doing("z"), "b": LONG}), (TooLong, 60))
        self.assertEqual(made({"a": doing("z"), "b": PUT, "c": ("",)}), (InvalidBlock, (0,)))
        self.assertEqual(made({"a": doing("z"), "b1": PUT}), (InvalidName, "b1"))

    def test_unknown_names_before_circles(self):
        self.assertEqual(made({"a": doing("a"), "b": doing("z")}), (UnknownName, "z"))
        self.assertEqual(made({"b": doing("y"), "a": doing("a", "z", "x")}), (UnknownName, "z"))
        self.assertEqual(made({"b": doing("x"), "c": doing("y")}), (UnknownName, "x"))

    def test_circles_before_sizes(self):
        self.assertEqual(made({"a": self.deep, "b": self.crowd, "c": doing("c"), **self.known}), (Circular, "c"))
        self.assertEqual(made({"a": around(7, doing("a"))}), (Circular, "a"))
        self.assertEqual(made({"a": self.deep, "z": doing("z"), "y": doing("y")}), (Circular, "y"))

    def test_sizes_part_by_part(self):
        self.assertEqual(made({"a": self.deep, "b": self.crowd, **self.known}), (TooDeep, 6))
        self.assertEqual(made({"b": self.deep, "a": self.crowd, **self.known}), (TooMany, 60))
        self.assertEqual(made({"a": self.crowd + self.deep, **self.known}), (TooDeep, 6))
        self.assertEqual(made({"a": around(1, doing("c")), "b": self.crowd, "c": nested(6), **self.known}),
                         (TooDeep, 6))
        self.assertEqual(made({"a": doing("c"), "b": nested(7), "c": self.crowd, **self.known}), (TooMany, 60))

    def test_the_order_of_the_keys_has_no_meaning(self):
        blocks = {"a": self.deep, "b": self.crowd, "c": doing("puts"), **self.known}
        self.assertEqual(made(dict(reversed(list(blocks.items())))), made(blocks))
        for name in ("a", "b"):
            del blocks[name]
        one, other = Parts(1, blocks), Parts(1, dict(reversed(list(blocks.items()))))
        self.assertEqual((one.names(), one.blocks(), one.users("puts")),
                         (other.names(), other.blocks(), other.users("puts")))


class Asked(unittest.TestCase):
    blocks = {"c": doing("b", "a", "b"), "b": (("repeat", 2, (("undo", "a"), ("put", 2))),), "a": PUT * 3, "d": ()}

    def setUp(self):
        self.parts = Parts(1, self.blocks)

    def test_names(self):
        self.assertEqual(self.parts.names(), ["a", "b", "c", "d"])
        self.assertEqual(Parts.empty(2).names(), [])
        self.assertIsInstance(self.parts.names(), list)

    def test_block(self):
        for name, block in self.blocks.items():
            self.assertEqual(self.parts.block(name), block)

    def test_users(self):
        self.assertEqual([self.parts.users(name) for name in "abcd"], [["b", "c"], ["c"], [], []])

    def test_unknown_names(self):
        for name in ("e", "", "ab", "A"):
            self.assertEqual(fields_of(self.parts.block, name), (UnknownName, name))
            self.assertEqual(fields_of(self.parts.users, name), (UnknownName, name))
        self.assertEqual(fields_of(Parts.empty(1).block, "a"), (UnknownName, "a"))

    def test_blocks(self):
        self.assertEqual(self.parts.blocks(), self.blocks)
        self.assertIsInstance(self.parts.blocks(), dict)
        self.assertEqual(Parts.empty(3).blocks(), {})

    def test_the_dict_that_was_passed_may_change(self):
        given = dict(self.blocks)
        parts = Parts(1, given)
        self.assertEqual(list(given), list(self.blocks))
        given["a"] = LONG
        given["e"] = PUT
        del given["d"]
        self.assertEqual(parts.blocks(), self.blocks)
        self.assertEqual((parts.names(), parts.block("a"), parts.puts(doing("a"))), (["a", "b", "c", "d"], PUT * 3, 3))

    def test_what_was_told_may_change(self):
        self.parts.names().append("e")
        self.parts.users("a").clear()
        told = self.parts.blocks()
        told["a"] = ()
        del told["b"]
        self.assertEqual((self.parts.names(), self.parts.users("a")), (["a", "b", "c", "d"], ["b", "c"]))
        self.assertEqual(self.parts.blocks(), self.blocks)

    def test_parameters_by_keyword(self):
        parts = Parts(dimension=1, blocks=self.blocks)
        self.assertEqual(Parts.empty(dimension=2).names(), [])
        self.assertEqual((parts.block(name="d"), parts.users(name="b")), ((), ["c"]))
        self.assertEqual((parts.check(block=PUT), parts.depth(block=PUT), parts.puts(block=PUT)), (None, 0, 1))


class BlocksChecked(unittest.TestCase):
    parts = Parts(2, {"deep": nested(4), "puts": (("repeat", 9, PUT * 25),), "both": doing("deep", "puts")})

    def measures(self, block):
        return self.parts.depth(block), self.parts.puts(block)

    def test_good_blocks(self):
        for block, measures in (((), (0, 0)), (PUT * 60, (0, 60)), (around(6, PUT), (6, 1)), (doing("deep"), (4, 0)),
                                (around(2, doing("deep")), (6, 0)), ((("undo", "puts"),) * 2 + PUT * 10, (1, 60)),
                                (around(2, doing("both")), (6, 25)), ((("repeat", 0, doing("both")),), (5, 25)),
                                ((("go", (1, 2)),), (0, 0)), (doing("puts") + nested(3) + PUT, (3, 26))):
            with self.subTest(block=block):
                self.assertIsNone(self.parts.check(block))
                self.assertEqual(self.measures(block), measures)

    def test_bad_blocks(self):
        for block, error in (((("put", 1), ("go", (1,))), (InvalidBlock, (1,))), (LONG, (TooLong, 60)),
                             (LONG + doing("x") + ("",), (InvalidBlock, (62,))),
                             (around(2, PUT + ("",)), (InvalidBlock, (0, 0, 1))),
                             (LONG + doing("x"), (TooLong, 60)), (doing("x"), (UnknownName, "x")),
                             (nested(7) + doing("deep", "y", "x"), (UnknownName, "y")),
                             (around(3, doing("z", "a")) + doing("b"), (UnknownName, "z"))):
            with self.subTest(block=block):
                for call in (self.parts.check, self.parts.depth, self.parts.puts):
                    self.assertEqual(fields_of(call, block), error)

    def test_blocks_that_are_too_deep(self):
        for block, measures in ((nested(7), (7, 0)), (around(3, doing("deep")), (7, 0)),
                                (around(3, doing("both")) + doing("puts", "puts"), (7, 75)), (nested(60), (60, 0)),
                                (around(59, doing("both")), (63, 25))):
            self.assertEqual(fields_of(self.parts.check, block), (TooDeep, 6))
            self.assertEqual(self.measures(block), measures)

    def test_blocks_with_too_many_puts(self):
        for block, measures in ((doing("puts", "puts") + PUT * 11, (1, 61)), (doing("both") * 60, (4, 1500)),
                                (around(1, doing("both", "both")) + doing("puts"), (5, 75))):
            self.assertEqual(fields_of(self.parts.check, block), (TooMany, 60))
            self.assertEqual(self.measures(block), measures)

    def test_depth_and_puts_against_blocks_written_out(self):
        dice = Dice(3)
        for _ in range(200):
            blocks = {}
            for name in "abcd":
                blocks[name] = self.some_block(dice, 1, list(blocks))
            block = self.some_block(dice, 2, list(blocks))
            parts = Parts(1, blocks)
            whole = inlined(blocks, block)
            self.assertEqual((parts.depth(block), parts.puts(block)), (depth_of(whole), puts_of(whole)))

    def some_block(self, dice, levels, names):
        found = ()
        for _ in range(dice.roll(4)):
            kind = dice.roll(4)
            if kind == 0 and names:
                found += ((("do", "undo")[dice.roll(2)], names[dice.roll(len(names))]),)
            elif kind == 1 and levels > 0:
                found += (("repeat", dice.roll(5) - 2, self.some_block(dice, levels - 1, names)),)
            else:
                found += (("put", 1),) if dice.roll(2) else (("go", (1,)),)
        return found


if __name__ == "__main__":
    unittest.main()
