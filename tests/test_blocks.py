"""Points 4 and 5 and the section strewfar/blocks.py."""

import unittest

from helpers import Dice, fields_of, nested, random_block, within_loops
from strewfar import blocks
from strewfar.blocks import check_block, depth, is_block, is_name, names_in, renamed, reverse, statements
from strewfar.errors import InvalidBlock, TooLong

STEP = 10 ** 12
TIMES = 10 ** 30

RIGHT_IN_EACH_DIMENSION = (
    ("put", 0),
    ("put", 5),
    ("put", -5),
    ("put", STEP),
    ("put", -STEP),
    ("do", "a"),
    ("do", "abcdefgh"),
    ("undo", "z"),
    ("undo", "zyxwvuts"),
    ("repeat", 0, ()),
    ("repeat", 3, ()),
    ("repeat", -3, (("put", 1),)),
    ("repeat", TIMES, ()),
    ("repeat", -TIMES, (("repeat", 1, (("do", "a"),)),)),
)
RIGHT_VECTORS = {
    1: ((0,), (1,), (-1,), (STEP,), (-STEP,)),
    2: ((0, 0), (1, -1), (STEP, -STEP), (-STEP, STEP)),
    3: ((0, 0, 0), (1, 2, 3), (STEP, STEP, STEP), (-STEP, 0, -STEP)),
}
WRONG_IN_EACH_DIMENSION = (
    "",
    "go",
    "put 1",
    5,
    0,
    True,
    (),
    ("go",),
    ("put",),
    ("do",),
    ("undo",),
    ("repeat",),
    ("repeat", 3),
    ("stay", 1),
    ("stay", 1, ()),
    ("stay", "a"),
    ("Do", "a"),
    ("undo ", "a"),
    ("repeat", "a"),
    ("", "a"),
    (1, "a"),
    ((), "a"),
    ("stay", (1,)),
    ("Put", 1),
    ("put ", 1),
    ("", 1),
    (1, 1),
    (True, 1),
    ((), 1),
    (("put", 1), 1),
    (("put", 1),),
    ("put", 1, 1),
    ("put", 1, ()),
    ("do", "a", "b"),
    ("do", "a", ()),
    ("undo", "a", ()),
    ("go", (1,), ()),
    ("go", (1, 1), ()),
    ("go", (1, 1, 1), ()),
    ("repeat", 3, (), ()),
    ("repeat", (), 3),
    ("put", STEP + 1),
    ("put", -STEP - 1),
    ("put", 10 ** 59),
    ("put", True),
    ("put", False),
    ("put", "1"),
    ("put", ""),
    ("put", ()),
    ("put", (1,)),
    ("do", ""),
    ("do", "abcdefghi"),
    ("do", "A"),
    ("do", "aB"),
    ("do", "a1"),
    ("do", "a b"),
    ("do", "a_b"),
    ("do", "a-b"),
    ("do", " a"),
    ("do", "a\n"),
    ("do", 1),
    ("do", True),
    ("do", ()),
    ("do", ("a",)),
    ("undo", ""),
    ("undo", "abcdefghi"),
    ("undo", "Z"),
    ("undo", 0),
    ("undo", ("z",)),
    ("repeat", TIMES + 1, ()),
    ("repeat", -TIMES - 1, ()),
    ("repeat", 10 ** 59, ()),
    ("repeat", True, ()),
    ("repeat", False, ()),
    ("repeat", "3", ()),
    ("repeat", (), ()),
    ("repeat", (3,), ()),
    ("repeat", 3, 3),
    ("repeat", 3, "put"),
    ("repeat", 3, ""),
    ("repeat", 3, True),
    ("go", 1),
    ("go", True),
    ("go", "1"),
    ("go", ""),
    ("go", ()),
    ("go", (1, 2, 3, 4)),
)
WRONG_VECTORS = {
    1: ((1, 2), (1, 2, 3), (True,), (False,), ("1",), ((1,),), (STEP + 1,), (-STEP - 1,)),
    2: ((1,), (1, 2, 3), (True, 1), (1, False), (1, "2"), ((1, 2),), (STEP + 1, 0), (0, -STEP - 1)),
    3: ((1,), (1, 2), (1, 2, True), ("", 1, 2), (1, (2,), 3), (0, 0, STEP + 1), (-STEP - 1, 0, 0), (0, STEP + 1, 0)),
}
LOOPS = ((), (0,), (2,), (1, 0), (0, 3), (1, 2, 0), (0, 0, 4))


def right_statements(dimension):
    return [*RIGHT_IN_EACH_DIMENSION, *[("go", vector) for vector in RIGHT_VECTORS[dimension]]]


def wrong_statements(dimension):
    return [*WRONG_IN_EACH_DIMENSION, *[("go", vector) for vector in WRONG_VECTORS[dimension]]]


class Names(unittest.TestCase):
    def test_names(self):
        for text in ("a", "z", "ab", "abcdefg", "abcdefgh", "do", "repeat"):
            with self.subTest(text=text):
                self.assertIs(is_name(text), True)

    def test_other_texts(self):
        for text in ("", "abcdefghi", "A", "Ab", "aB", "a1", "1", "a b", " ", " a", "a ", "a_", "a-b", "a;", "{", "a\n",
                     "`", "\u00e9", "\u03b1", "a" * 8000):
            with self.subTest(text=text):
                self.assertIs(is_name(text), False)


class Forms(unittest.TestCase):
    def test_bounds(self):
        found = (blocks.MAX_STATEMENTS, blocks.MAX_STEP, blocks.MAX_TIMES)
        self.assertEqual(found, (60, 10 ** 12, 10 ** 30))

    def test_the_empty_block(self):
        for dimension in (1, 2, 3):
            self.assertIs(is_block((), dimension), True)
            self.assertIsNone(check_block((), dimension))

    def test_right_statements(self):
        for dimension in (1, 2, 3):
            for statement in right_statements(dimension):
                for loops in LOOPS:
                    block = within_loops((("put", 2), statement), loops)
                    with self.subTest(block=block, dimension=dimension):
                        self.assertIs(is_block(block, dimension), True)
                        self.assertIsNone(check_block(block, dimension))

    def test_wrong_statements(self):
        for dimension in (1, 2, 3):
            for statement in wrong_statements(dimension):
                for loops in LOOPS:
                    block = within_loops((("put", 2), statement, ("put", 2)), loops)
                    with self.subTest(block=block, dimension=dimension):
                        self.assertIs(is_block(block, dimension), False)
                        self.assertEqual(fields_of(check_block, block, dimension), (InvalidBlock, (*loops, 1)))

    def test_a_block_that_is_a_statement(self):
        self.assertIs(is_block(("put", 1), 1), False)
        self.assertEqual(fields_of(check_block, ("put", 1), 1), (InvalidBlock, (0,)))

    def test_a_loop_deep_within_others(self):
        wrong = (("put", True),)
        for _ in range(18):
            wrong = (("put", 1), ("repeat", 1, wrong))
        self.assertIs(is_block(wrong, 1), False)
        self.assertEqual(fields_of(check_block, wrong, 1), (InvalidBlock, (1,) * 18 + (0,)))


class FirstWrong(unittest.TestCase):
    def path(self, block):
        kind, path = fields_of(check_block, block, 1)
        self.assertIs(kind, InvalidBlock)
        self.assertIsInstance(path, tuple)
        return path

    def test_the_first_of_several(self):
        self.assertEqual(self.path((("put", 1), ("put", ""), ("put", ""))), (1,))
        self.assertEqual(self.path((("put", ""), ("repeat", 1, ("",)))), (0,))

    def test_a_loop_before_the_statements_behind_it(self):
        self.assertEqual(self.path((("repeat", 1, (("put", 1), "")), "")), (0, 1))
        self.assertEqual(self.path((("repeat", 1, (("repeat", 1, ("",)), "")), "")), (0, 0, 0))

    def test_a_loop_before_the_statements_in_its_block(self):
        self.assertEqual(self.path((("repeat", True, ("", "")),)), (0,))
        self.assertEqual(self.path((("put", 1), ("repeat", TIMES + 1, ("",)))), (1,))
        self.assertEqual(self.path((("repeat", 1, (("repeat", "", ("",)),)),)), (0, 0))

    def test_a_loop_whose_third_element_is_no_block(self):
        self.assertEqual(self.path((("put", 1), ("repeat", 1, "go"))), (1,))
        self.assertEqual(self.path((("repeat", 1, (("put", 1), ("repeat", 1, 2))),)), (0, 1))

    def test_right_loops_in_front(self):
        self.assertEqual(self.path((("repeat", 1, ()), ("repeat", 1, (("put", 1),)), "")), (2,))


class Lengths(unittest.TestCase):
    def test_sixty_statements(self):
        for block in ((("put", 1),) * 60, (("repeat", 1, (("put", 1),) * 59),), nested(60),
                      (("repeat", 1, ()),) * 60, (("repeat", 2, (("do", "a"),) * 2),) * 20):
            self.assertIsNone(check_block(block, 1))
            self.assertIs(is_block(block, 1), True)

    def test_more_statements(self):
        for block in ((("put", 1),) * 61, (("repeat", 1, (("put", 1),) * 60),), nested(61), (("put", 1),) * 1000,
                      (("repeat", 1, ()),) * 61, (("repeat", 2, (("do", "a"),) * 2),) * 20 + (("put", 1),)):
            self.assertEqual(fields_of(check_block, block, 1), (TooLong, 60))
            self.assertIs(is_block(block, 1), True)

    def test_wrong_statements_come_first(self):
        self.assertEqual(fields_of(check_block, (("put", 1),) * 99 + ("",), 1), (InvalidBlock, (99,)))
        self.assertIs(is_block((("put", 1),) * 99 + ("",), 1), False)
        block = (("put", 1),) * 61 + (("repeat", 1, (("go", (1, 2)),)),)
        self.assertEqual(fields_of(check_block, block, 1), (InvalidBlock, (61, 0)))


class Reverses(unittest.TestCase):
    def test_each_kind_of_statement(self):
        self.assertEqual(reverse((("go", (3,)),)), (("go", (-3,)),))
        self.assertEqual(reverse((("go", (3, 0, -4)),)), (("go", (-3, 0, 4)),))
        self.assertEqual(reverse((("put", 5),)), (("put", -5),))
        self.assertEqual(reverse((("put", 0),)), (("put", 0),))
        self.assertEqual(reverse((("do", "a"),)), (("undo", "a"),))
        self.assertEqual(reverse((("undo", "a"),)), (("do", "a"),))

    def test_loops(self):
        body = (("put", 1), ("go", (2,)))
        back = (("go", (-2,)), ("put", -1))
        for times in (0, 1, 7, -7, TIMES, -TIMES):
            self.assertEqual(reverse((("repeat", times, body),)), (("repeat", times, back),))

    def test_nested_loops(self):
        block = (("do", "a"), ("repeat", 3, (("put", 1), ("repeat", -2, (("undo", "b"), ("go", (1, 2)))))))
        back = (("repeat", 3, (("repeat", -2, (("go", (-1, -2)), ("do", "b"))), ("put", -1))), ("undo", "a"))
        self.assertEqual(reverse(block), back)

    def test_empty_blocks(self):
        self.assertEqual(reverse(()), ())
        self.assertEqual(reverse((("repeat", -4, ()),)), (("repeat", -4, ()),))

    def test_the_order_is_reversed(self):
        block = (("go", (1,)), ("put", 3), ("do", "a"))
        self.assertEqual(reverse(block), (("undo", "a"), ("put", -3), ("go", (-1,))))

    def test_twice_the_reverse_is_the_block(self):
        dice = Dice(5)
        for _ in range(300):
            block = random_block(dice, 1 + dice.roll(3), 3)
            self.assertEqual(reverse(reverse(block)), block)

    def test_the_reverse_is_a_block(self):
        dice = Dice(6)
        for _ in range(300):
            self.assertIs(is_block(reverse(random_block(dice, 2, 3)), 2), True)


class Measures(unittest.TestCase):
    def test_statements(self):
        self.assertEqual(statements(()), 0)
        self.assertEqual(statements((("put", 1), ("go", (1,)), ("do", "a"), ("undo", "a"))), 4)
        self.assertEqual(statements((("repeat", 5, ()),)), 1)
        self.assertEqual(statements((("repeat", 5, (("put", 1), ("repeat", 2, (("put", 1),)))), ("put", 1))), 5)
        self.assertEqual(statements((("put", 1),) * 5000), 5000)
        self.assertEqual(statements(nested(60)), 60)

    def test_depth(self):
        self.assertEqual(depth(()), 0)
        self.assertEqual(depth((("put", 1), ("do", "a"))), 0)
        self.assertEqual(depth((("repeat", 5, ()),)), 1)
        self.assertEqual(depth((("repeat", 0, (("put", 1), ("repeat", 2, ()))), ("put", 1))), 2)
        self.assertEqual(depth(nested(3) + nested(1)), 3)
        self.assertEqual(depth(nested(1) + nested(4) + nested(2)), 4)
        self.assertEqual(depth(nested(60)), 60)
        self.assertEqual(depth((("put", 1),) * 5000), 0)

    def test_long_blocks(self):
        block = (("repeat", 2, (("do", "a"), ("put", 1))),) * 2000
        self.assertEqual((statements(block), depth(block), names_in(block)), (6000, 1, ["a"]))
        self.assertEqual(reverse(reverse(block)), block)
        self.assertEqual(names_in(renamed(block, "a", "b")), ["b"])


class NamesInBlocks(unittest.TestCase):
    block = (("undo", "c"), ("repeat", 2, (("do", "a"), ("repeat", 0, (("undo", "d"), ("do", "c"))), ("do", "b"))),
             ("do", "a"), ("undo", "e"), ("put", 1), ("go", (1,)))

    def test_no_names(self):
        self.assertEqual(names_in(()), [])
        self.assertEqual(names_in((("put", 1), ("go", (1,)), ("repeat", 2, ()))), [])

    def test_names_once_each_in_order(self):
        self.assertEqual(names_in(self.block), ["c", "a", "d", "b", "e"])
        self.assertEqual(names_in((("do", "b"), ("undo", "b"), ("do", "a"), ("do", "b"))), ["b", "a"])

    def test_each_list_is_new(self):
        names_in(self.block).append("x")
        self.assertEqual(names_in(self.block), ["c", "a", "d", "b", "e"])

    def test_renamed(self):
        expected = (("undo", "c"),
                    ("repeat", 2, (("do", "x"), ("repeat", 0, (("undo", "d"), ("do", "c"))), ("do", "b"))),
                    ("do", "x"), ("undo", "e"), ("put", 1), ("go", (1,)))
        self.assertEqual(renamed(self.block, "a", "x"), expected)
        self.assertEqual(names_in(renamed(self.block, "d", "y")), ["c", "a", "y", "b", "e"])
        self.assertEqual(renamed((("undo", "a"),), "a", "b"), (("undo", "b"),))

    def test_renamed_with_a_name_that_is_not_there(self):
        self.assertEqual(renamed(self.block, "x", "a"), self.block)
        self.assertEqual(renamed((), "a", "b"), ())

    def test_renamed_to_a_name_that_is_there(self):
        self.assertEqual(names_in(renamed(self.block, "a", "c")), ["c", "d", "b", "e"])
        self.assertEqual(renamed((("do", "a"), ("do", "b")), "a", "b"), (("do", "b"), ("do", "b")))
        self.assertEqual(renamed(self.block, "a", "a"), self.block)

    def test_words_of_statements_are_not_names(self):
        block = (("do", "do"), ("undo", "put"), ("put", 1), ("repeat", 2, (("do", "repeat"),)))
        self.assertEqual(names_in(block), ["do", "put", "repeat"])
        self.assertEqual(renamed(block, "do", "a"), (("do", "a"),) + block[1:])
        self.assertEqual(renamed(block, "put", "a"), (block[0], ("undo", "a")) + block[2:])
        self.assertEqual(renamed(block, "repeat", "a"), block[:3] + (("repeat", 2, (("do", "a"),)),))


class Calls(unittest.TestCase):
    def test_parameters_by_keyword(self):
        block = (("do", "a"),)
        self.assertIs(is_name(text="a"), True)
        self.assertIs(is_block(block=block, dimension=1), True)
        self.assertIsNone(check_block(block=block, dimension=1))
        self.assertEqual(reverse(block=block), (("undo", "a"),))
        self.assertEqual(statements(block=block), 1)
        self.assertEqual(depth(block=block), 0)
        self.assertEqual(names_in(block=block), ["a"])
        self.assertEqual(renamed(block=block, old="a", new="b"), (("do", "b"),))

    def test_blocks_are_tuples(self):
        block = (("go", (1, 2)), ("repeat", 2, (("put", 1), ("do", "a"))))
        for found in (reverse(block), renamed(block, "a", "b")):
            self.assertIs(is_block(found, 2), True)
            self.assertIsInstance(found, tuple)


if __name__ == "__main__":
    unittest.main()
