"""Points 16 and 17 and the section strewfar/books.py."""

import unittest

from helpers import Dice, Steps, counts_of, fields_of, heap_of, measure, named_in, nested, small_block, uses
from strewfar.blocks import renamed
from strewfar.books import Book
from strewfar.errors import (CapacityExceeded, Circular, DuplicateName, InUse, InvalidBlock, InvalidCommand,
                             InvalidName, NothingLeft, TooDeep, TooLong, TooMany, UnknownName, WrongDimension)
from strewfar.parts import Parts

PUT = (("put", 1),)
FAR = 10 ** 30
NAMES = "abcdefghijkl"
WRONG_NAMES = ("", "A", "aB", "a1", "a b", "abcdefghi", "a-", " ", "a\n")


def doing(*names):
    return tuple(("do", name) for name in names)


def around(levels, block):
    for _ in range(levels):
        block = (("repeat", 3, block),)
    return block


def book_of(dimension=1, **blocks):
    return Book.of(Parts(dimension, blocks))


def told(book):
    return book.parts.dimension, book.parts.blocks(), book.history(), len(book), repr(book)


def raised(call, *arguments):
    """Return the class and field of an error, also of NothingLeft."""
    try:
        return fields_of(call, *arguments)
    except NothingLeft as error:
        assert error.tag == "NothingLeft" and set(vars(error)) == {"tag"}
        return (NothingLeft,)


class Model:
    """What a book should do, written down once more: it keeps blocks by name and all of its states."""

    def __init__(self):
        self.states, self.at = [{}], 0

    def blocks(self):
        return self.states[self.at]

    def step(self, commands):
        """Return the error of a batch, or None if it is applied."""
        blocks = self.blocks()
        for command in commands:
            error, blocks = self.applied(dict(blocks), *command)
            if error is not None:
                return error
        self.states, self.at = [*self.states[:self.at + 1], blocks], self.at + 1
        return None

    def applied(self, blocks, word, name, *given):
        error = getattr(self, word)(blocks, name, *given)
        return error, blocks

    def wrong_name(self, blocks, name):
        if not (1 <= len(name) <= 8 and all("a" <= letter <= "z" for letter in name)):
            return (InvalidName, name)
        return (DuplicateName, name) if name in blocks else None

    def wrong_form(self, blocks, block):
        if len(block) > 60:
            return (TooLong, 60)
        unknown = [other for other in named_in(block) if other not in blocks]
        return (UnknownName, unknown[0]) if unknown else None

    def wrong_size(self, blocks, block):
        depth, puts = measure(blocks, block)
        return (TooDeep, 6) if depth > 6 else (TooMany, 60) if puts > 60 else None

    def define(self, blocks, name, block):
        error = self.wrong_name(blocks, name) or ((CapacityExceeded, 12) if len(blocks) >= 12 else None)
        error = error or self.wrong_form(blocks, block) or self.wrong_size(blocks, block)
        blocks[name] = block
        return error

    def redefine(self, blocks, name, block):
        if name not in blocks:
            return (UnknownName, name)
        error = self.wrong_form(blocks, block)
        if error:
            return error
        blocks[name] = block
        if name in uses(blocks, name):
            return (Circular, name)
        errors = [self.wrong_size(blocks, blocks[other]) for other in sorted(blocks)]
        return next((error for error in errors if error), None)

    def rename(self, blocks, name, new):
        if name not in blocks:
            return (UnknownName, name)
        error = self.wrong_name(blocks, new)
        if error is None:
            blocks[new] = blocks.pop(name)
            for other in blocks:
                blocks[other] = renamed(blocks[other], name, new)
        return error

    def drop(self, blocks, name):
        if name not in blocks:
            return (UnknownName, name)
        users = [other for other in sorted(blocks) if name in named_in(blocks[other])]
        if users:
            return (InUse, users[0])
        del blocks[name]
        return None


class Drawn(unittest.TestCase):
    """Drawn commands, one by one and in batches, against a model."""

    def name(self, dice):
        return (*"abcdefghijklmno", "A", "")[dice.roll(17)]

    def block(self, dice, blocks):
        kind = dice.roll(12)
        known = sorted(blocks)
        if kind < 6 and known:
            block = doing(*[known[dice.roll(len(known))] for _ in range(1 + dice.roll(3))])
            return around(dice.roll(4), block + PUT * dice.roll(20))
        if kind == 6:
            return doing("abcdefghijklmno"[dice.roll(15)])
        if kind == 7:
            return PUT * (55 + dice.roll(8))
        return around(dice.roll(5), PUT * dice.roll(3))

    def command(self, dice, blocks):
        name = sorted(blocks)[dice.roll(len(blocks))] if blocks and dice.roll(4) else self.name(dice)
        kind = dice.roll(9)
        if kind < 3:
            return ("define", self.name(dice), self.block(dice, blocks))
        if kind < 6:
            return ("redefine", name, self.block(dice, blocks))
        return ("rename", name, self.name(dice)) if kind < 8 else ("drop", name)

    def test_commands(self):
        seen = {}
        for seed in range(25):
            dice, book, model = Dice(seed), Book(1), Model()
            for _ in range(150):
                error = self.act(dice, book, model)
                seen[error] = seen.get(error, 0) + 1
                expected = (1, model.blocks(), (model.at, len(model.states) - 1 - model.at), len(model.blocks()),
                            f"Book({len(model.blocks())} parts)")
                self.assertEqual(told(book), expected)
        for error in (CapacityExceeded, Circular, DuplicateName, InUse, InvalidName, NothingLeft, TooDeep, TooLong,
                      TooMany, UnknownName, None):
            self.assertGreater(seen.get(error, 0), 5)

    def act(self, dice, book, model):
        kind = dice.roll(12)
        if kind < 2:
            there = model.at + (1 if kind else -1)
            call = book.redo if kind else book.undo
            expected = None if 0 <= there < len(model.states) else (NothingLeft,)
            self.assertEqual(raised(call), expected)
            model.at = model.at if expected else there
            return expected and expected[0]
        commands = [self.command(dice, model.blocks()) for _ in range(1 if kind < 9 else dice.roll(4))]
        expected = model.step(commands)
        if kind < 5:
            found = raised(getattr(book, commands[0][0]), *commands[0][1:])
        elif kind < 9:
            found = raised(book.apply, commands[0])
        else:
            found = raised(book.apply_all, commands if dice.roll(2) else tuple(commands))
        self.assertEqual(found, expected)
        return expected and expected[0]


class Commands(unittest.TestCase):
    def assert_refused(self, book, command, error):
        """Check that a command fails in each way in which it can be applied, and that nothing changes."""
        before, name = told(book), book.parts.names()[0]
        there_and_back = [("rename", name, "zz"), ("rename", "zz", name)]
        ways = [lambda: book.apply(command), lambda: book.apply_all([command]), lambda: book.apply_all((command,)),
                lambda: book.apply_all([*there_and_back, command, *there_and_back])]
        if error[0] is not InvalidCommand:
            ways.append(lambda: getattr(book, command[0])(*command[1:]))
        for way in ways:
            self.assertEqual(raised(way), error)
            self.assertEqual(told(book), before)

    def test_define(self):
        book = Book(1)
        self.assertIsNone(book.define("a", PUT))
        self.assertIsNone(book.apply(("define", "b", doing("a"))))
        self.assertIsNone(book.apply_all([("define", "abcdefgh", ())]))
        self.assertEqual(book.parts.blocks(), {"a": PUT, "b": doing("a"), "abcdefgh": ()})

    def test_errors_of_define(self):
        book = book_of(a=PUT, deep=nested(6), puts=PUT * 60)
        wrong = (("put", True),)
        for name in WRONG_NAMES:
            for block in (PUT, wrong):
                self.assert_refused(book, ("define", name, block), (InvalidName, name))
        for block in (PUT, wrong, doing("x"), PUT * 61):
            self.assert_refused(book, ("define", "a", block), (DuplicateName, "a"))
        for block, error in ((wrong, (InvalidBlock, (0,))), (PUT * 61 + wrong, (InvalidBlock, (61,))),
                             (around(2, PUT + (("go", (1, 2)),)), (InvalidBlock, (0, 0, 1))),
                             (doing("x") * 61, (TooLong, 60)), (doing("a", "x", "y") + nested(7), (UnknownName, "x")),
                             (doing("new"), (UnknownName, "new")), (nested(7) + PUT * 50 + doing("puts"), (TooDeep, 6)),
                             ((("repeat", 1, doing("deep")),), (TooDeep, 6)),
                             (doing("puts", "a"), (TooMany, 60))):
            self.assert_refused(book, ("define", "new", block), error)

    def test_twelve_parts(self):
        book = book_of(**{name: () for name in NAMES})
        for block in (PUT, PUT * 61, doing("x"), (("put", True),)):
            self.assert_refused(book, ("define", "m", block), (CapacityExceeded, 12))
        self.assert_refused(book, ("define", "M", ()), (InvalidName, "M"))
        self.assert_refused(book, ("define", "l", ()), (DuplicateName, "l"))
        book.redefine("a", PUT)
        book.rename("b", "z")
        book.drop("c")
        book.define("m", ())
        self.assertEqual(book.parts.names(), sorted("adefghijklmz"))

    def test_the_commands_ahead_count(self):
        book = book_of(**{name: () for name in NAMES[:11]})
        before = told(book)
        more = [("define", "l", ()), ("define", "m", ())]
        self.assertEqual(raised(book.apply_all, more), (CapacityExceeded, 12))
        self.assertEqual(raised(book.apply_all, [("define", "l", doing("m"))]), (UnknownName, "m"))
        self.assertEqual(raised(book.apply_all, [("redefine", "a", doing("b")), more[0], ("drop", "b")]), (InUse, "a"))
        self.assertEqual(told(book), before)
        book.apply_all([more[0], ("drop", "a"), more[1]])
        self.assertEqual(book.parts.names(), list(NAMES[1:] + "m"))
        book.apply_all([("rename", "b", "a"), ("redefine", "c", doing("a")), ("drop", "d"),
                        ("define", "b", doing("c"))])
        self.assertEqual(book.parts.block("b"), doing("c"))
        self.assertEqual(book.history(), (2, 0))

    def test_redefine(self):
        book = book_of(a=PUT, b=doing("a"))
        book.redefine("a", PUT * 2)
        self.assertEqual(book.effect("b").total, 2)
        book.apply(("redefine", "a", (("go", (5,)),)))
        self.assertEqual(book.trail("b").shift, (5,))
        book.redefine("a", (("go", (5,)),))
        self.assertEqual(book.history(), (3, 0))

    def test_errors_of_redefine(self):
        book = book_of(a=PUT, b=doing("a"), c=(("repeat", 2, (("undo", "b"),)),), d=nested(5), puts=PUT * 60)
        for name in ("x", "", "A"):
            for block in (PUT, (("put", True),), doing("x")):
                self.assert_refused(book, ("redefine", name, block), (UnknownName, name))
        for block, error in (((("put", True),), (InvalidBlock, (0,))), (doing("a") * 61, (TooLong, 60)),
                             (PUT * 60 + (("go", ()),), (InvalidBlock, (60,))),
                             (doing("a", "y", "x"), (UnknownName, "y")), (doing("c", "x"), (UnknownName, "x")),
                             (doing("a"), (Circular, "a")), (doing("b"), (Circular, "a")),
                             (nested(7) + doing("c") + PUT * 50, (Circular, "a")),
                             ((("repeat", 0, (("undo", "a"),)),), (Circular, "a"))):
            self.assert_refused(book, ("redefine", "a", block), error)
        self.assert_refused(book, ("redefine", "b", doing("c")), (Circular, "b"))
        self.assert_refused(book, ("redefine", "a", nested(6)), (TooDeep, 6))
        self.assert_refused(book, ("redefine", "d", nested(7)), (TooDeep, 6))
        self.assert_refused(book, ("redefine", "d", doing("puts", "puts")), (TooMany, 60))

    def test_the_first_part_that_is_too_large(self):
        # The part a has too many puts; the part b, behind it, is too deep.
        book = book_of(a=doing("m") * 2, b=around(6, doing("m")), m=())
        self.assert_refused(book, ("redefine", "m", around(1, PUT * 31)), (TooMany, 60))
        self.assert_refused(book, ("redefine", "m", nested(1) + PUT * 30), (TooDeep, 6))
        book = book_of(a=around(6, doing("m")), b=doing("m") * 2, m=())
        self.assert_refused(book, ("redefine", "m", around(1, PUT * 31)), (TooDeep, 6))
        book = book_of(a=around(6, doing("m")) + doing("m"), m=())
        self.assert_refused(book, ("redefine", "m", around(1, PUT * 31)), (TooDeep, 6))

    def test_rename(self):
        book = book_of(a=PUT, b=doing("a", "c"), c=(("repeat", 2, (("undo", "a"), ("repeat", -1, doing("a")))),))
        self.assertIsNone(book.rename("a", "z"))
        self.assertEqual(book.parts.blocks(), {"z": PUT, "b": doing("z", "c"), "c": (
            ("repeat", 2, (("undo", "z"), ("repeat", -1, doing("z")))),)})
        self.assertEqual(book.parts.names(), ["b", "c", "z"])
        book.apply(("rename", "b", "a"))
        self.assertEqual(book.parts.block("a"), doing("z", "c"))

    def test_errors_of_rename(self):
        book = book_of(a=PUT, b=doing("a"))
        for new in ("c", "", "A", "a", "b", "x"):
            self.assert_refused(book, ("rename", "x", new), (UnknownName, "x"))
        for new in WRONG_NAMES:
            self.assert_refused(book, ("rename", "a", new), (InvalidName, new))
        for new in ("a", "b"):
            self.assert_refused(book, ("rename", "a", new), (DuplicateName, new))

    def test_drop(self):
        book = book_of(a=PUT, b=doing("a"))
        self.assertIsNone(book.drop("b"))
        self.assertIsNone(book.drop("a"))
        self.assertEqual((len(book), book.parts.blocks()), (0, {}))

    def test_errors_of_drop(self):
        book = book_of(a=PUT, d=doing("a"), c=around(3, (("undo", "a"),)), b=doing("c"))
        for name in ("x", "", "A"):
            self.assert_refused(book, ("drop", name), (UnknownName, name))
        self.assert_refused(book, ("drop", "a"), (InUse, "c"))
        self.assert_refused(book, ("drop", "c"), (InUse, "b"))

    def test_invalid_commands(self):
        book = book_of(a=PUT)
        for command in ((), ("",), ("define",), ("define", "b"), ("define", "b", (), ()), ("redefine", "a"),
                        ("redefine",), ("redefine", "a", (), 1), ("rename", "a"), ("rename", "a", "b", "c"), ("drop",),
                        ("drop", "a", "b"), ("Define", "b", ()), ("undo",), ("remove", "a"), ("drop ", "a"),
                        ("apply", "a"), ("define ", "b", ())):
            self.assert_refused(book, command, (InvalidCommand, command[0] if command else None))

    def test_invalid_commands_are_found_first(self):
        book = book_of(a=PUT)
        before = told(book)
        for commands, first in (([("drop", "x"), ("lose", "a")], "lose"), ([("drop", "a"), ()], None),
                                ([("drop", "x"), ("drop",), ("lose",)], "drop"),
                                ([("define", "b", PUT * 61), ("redefine", "a")], "redefine")):
            self.assertEqual(raised(book.apply_all, commands), (InvalidCommand, first))
            self.assertEqual(told(book), before)


class Steps17(unittest.TestCase):
    """Batches, undo, redo and history."""

    def test_a_batch_is_one_step(self):
        book = Book(1)
        self.assertIsNone(book.apply_all([("define", "a", PUT), ("define", "b", doing("a")), ("rename", "a", "c")]))
        self.assertEqual((book.history(), book.parts.names()), ((1, 0), ["b", "c"]))
        self.assertIsNone(book.undo())
        self.assertEqual((book.history(), book.parts.names()), ((0, 1), []))
        self.assertIsNone(book.redo())
        self.assertEqual((book.history(), book.parts.names()), ((1, 0), ["b", "c"]))

    def test_an_empty_batch_is_a_step(self):
        book = book_of(a=PUT)
        book.apply_all([])
        self.assertEqual((book.history(), book.parts.names()), ((1, 0), ["a"]))
        book.undo()
        self.assertEqual((book.history(), book.parts.names()), ((0, 1), ["a"]))
        book.drop("a")
        book.undo()
        book.apply_all(())
        self.assertEqual((book.history(), book.parts.names()), ((1, 0), ["a"]))

    def test_all_or_none(self):
        book = book_of(a=PUT)
        book.define("b", ())
        book.undo()
        before = told(book)
        for commands in ([("define", "c", ()), ("drop", "x")], [("drop", "a"), ("drop", "a")],
                         [("redefine", "a", ()), ("define", "c", doing("a")), ("redefine", "a", doing("c"))]):
            self.assertIsNotNone(raised(book.apply_all, commands))
            self.assertEqual(told(book), before)
        book.redo()
        self.assertEqual(book.parts.names(), ["a", "b"])

    def test_undo_and_redo(self):
        book, states = Book(2), [{}]
        for index, command in enumerate([("define", "a", PUT), ("define", "b", doing("a")), ("redefine", "a", ()),
                                         ("rename", "a", "c"), ("drop", "b")]):
            book.apply(command)
            states.append(book.parts.blocks())
            self.assertEqual(book.history(), (index + 1, 0))
        for index in (4, 3, 2, 1, 0):
            book.undo()
            self.assertEqual((book.parts.blocks(), book.history()), (states[index], (index, 5 - index)))
        for index in (1, 2, 3):
            book.redo()
            self.assertEqual((book.parts.blocks(), book.history()), (states[index], (index, 5 - index)))
        self.assertIsNotNone(raised(book.drop, "a"))
        self.assertEqual(book.history(), (3, 2))
        book.undo()
        book.define("z", ())
        self.assertEqual((book.history(), raised(book.redo)), ((3, 0), (NothingLeft,)))

    def test_nothing_left(self):
        for book in (Book(1), book_of(a=PUT), book_of(a=PUT).clone()):
            before = told(book)
            self.assertEqual((raised(book.undo), raised(book.redo)), ((NothingLeft,), (NothingLeft,)))
            self.assertEqual(told(book), before)
            book.define("b", ())
            self.assertEqual(raised(book.redo), (NothingLeft,))
            book.undo()
            self.assertEqual(raised(book.undo), (NothingLeft,))
            book.redo()
            self.assertEqual((book.history(), len(book)), ((1, 0), len(before[1]) + 1))

    def test_history_is_a_tuple(self):
        self.assertIsInstance(Book(1).history(), tuple)

    def test_many_steps(self):
        book = Book(1)
        for number in range(300):
            book.apply(("redefine" if number else "define", "a", (("put", number),)))
        for number in reversed(range(300)):
            self.assertEqual(book.effect("a").total, number)
            book.undo()
        self.assertEqual(book.history(), (0, 300))


class Clones(unittest.TestCase):
    def test_content_and_history(self):
        book = Book(1)
        book.define("a", PUT)
        book.define("b", doing("a"))
        book.undo()
        clone = book.clone()
        self.assertEqual(told(clone), told(book))
        self.assertIsInstance(clone, Book)
        clone.redo()
        self.assertEqual((clone.history(), book.history()), ((2, 0), (1, 1)))
        clone.undo()
        clone.undo()
        self.assertEqual((clone.history(), len(clone), len(book)), ((0, 2), 0, 1))

    def test_clones_of_clones_are_independent(self):
        book = book_of(a=PUT)
        book.define("b", ())
        one = book.clone()
        two = one.clone()
        for changed, others in ((book, (one, two)), (one, (book, two)), (two, (book, one))):
            before = [told(other) for other in others]
            changed.undo()
            changed.define("c", doing("a"))
            changed.drop("c")
            changed.undo()
            self.assertEqual([told(other) for other in others], before)
            self.assertEqual(changed.history(), (1, 1))
            changed.redo()
            changed.undo()
            changed.undo()
            changed.apply_all([])
            self.assertEqual([told(other) for other in others], before)

    def test_a_clone_of_a_book_that_changes_later(self):
        book = Book(1)
        clone = book.clone()
        book.define("a", PUT)
        self.assertEqual(told(clone), told(Book(1)))
        self.assertEqual(raised(clone.undo), (NothingLeft,))


class Equality(unittest.TestCase):
    def test_equal_books(self):
        one, other = book_of(a=PUT, b=doing("a")), Book(1)
        other.define("a", ())
        other.define("c", doing("a"))
        self.assertNotEqual(one, other)
        other.rename("c", "b")
        self.assertFalse(one == other)
        other.redefine("a", PUT)
        self.assertEqual(one, other)
        self.assertTrue(one == other and not one != other)
        other.drop("b")
        self.assertNotEqual(one, other)
        other.undo()
        self.assertEqual(one, other)
        self.assertEqual(other, other.clone())
        self.assertEqual(Book(3), Book(3))

    def test_other_dimensions(self):
        self.assertEqual([Book(1) == Book(dimension) for dimension in (1, 2, 3)], [True, False, False])
        self.assertNotEqual(book_of(1, a=PUT), book_of(2, a=PUT))

    def test_other_blocks(self):
        for blocks in ({}, {"a": ()}, {"b": PUT}, {"a": PUT, "b": ()}, {"a": (("put", 2),)}):
            self.assertNotEqual(book_of(a=PUT), Book.of(Parts(1, blocks)))

    def test_other_kinds_of_values(self):
        book = book_of(a=PUT)
        for other in (None, 1, "Book(1 parts)", book.parts, {"a": PUT}, [], (), object()):
            self.assertFalse(book == other)
            self.assertFalse(other == book)
            self.assertTrue(book != other)


class Books(unittest.TestCase):
    def test_an_empty_book(self):
        for dimension in (1, 2, 3):
            self.assertEqual(told(Book(dimension=dimension)), (dimension, {}, (0, 0), 0, "Book(0 parts)"))
        for dimension in (0, 4, -1, 99, FAR):
            self.assertEqual(raised(Book, dimension), (WrongDimension, dimension))

    def test_books_of_parts(self):
        parts = Parts(2, {"a": PUT, "b": doing("a")})
        book = Book.of(parts=parts)
        self.assertEqual(told(book), (2, parts.blocks(), (0, 0), 2, "Book(2 parts)"))
        self.assertEqual(raised(book.undo), (NothingLeft,))
        other = book.of(parts)
        other.drop("b")
        self.assertEqual((parts.names(), book.parts.names(), other.parts.names()), (["a", "b"], ["a", "b"], ["a"]))
        self.assertIsInstance(other, Book)

    def test_parts_that_were_told_stay_as_they_were(self):
        book = book_of(a=PUT)
        told_first = book.parts
        book.redefine("a", ())
        book.define("b", doing("a"))
        self.assertEqual((told_first.blocks(), told_first.puts(doing("a"))), ({"a": PUT}, 1))
        self.assertEqual(book.parts.blocks(), {"a": (), "b": doing("a")})
        self.assertIsInstance(book.parts, Parts)
        book.parts.blocks().clear()
        self.assertEqual(len(book), 2)

    def test_length_and_repr(self):
        book = Book(1)
        for many in range(12):
            self.assertEqual((len(book), repr(book)), (many, f"Book({many} parts)"))
            book.define(NAMES[many], ())
        self.assertEqual((len(book), repr(book)), (12, "Book(12 parts)"))

    def test_trail_and_effect(self):
        for dimension in (1, 2, 3):
            dice, book = Dice(dimension), Book(dimension)
            for _ in range(25):
                blocks = {"a": small_block(dice, dimension, 1, []), "b": small_block(dice, dimension, 1, ["a"]),
                          "c": small_block(dice, dimension, 2, ["a", "b"])}
                for name in "cba" if len(book) else "":
                    book.redefine(name, ())
                for name in "abc":
                    (book.redefine if name in book.parts.names() else book.define)(name, blocks[name])
                for name in "abc":
                    steps = Steps(dimension, blocks, blocks[name])
                    heap = counts_of([(place, number) for _, place, number, _ in steps.puts])
                    self.assertEqual((book.trail(name).beats, book.trail(name).shift), (steps.beats, steps.shift))
                    self.assertEqual((heap_of(book.effect(name).terms()), book.effect(name).shift),
                                     (heap, steps.shift))

    def test_parts_that_use_a_changed_one(self):
        book = book_of(a=PUT, b=(("repeat", FAR, doing("a")),), c=(("undo", "b"),))
        self.assertEqual((book.effect("c").total, book.trail("c").beats), (-FAR, FAR))
        trail = book.trail("c")
        book.redefine("a", (("go", (3,)), ("put", 7), ("put", 2)))
        self.assertEqual((book.effect("c").total, book.trail("c").beats, book.trail("c").shift),
                         (-9 * FAR, 3 * FAR, (-3 * FAR,)))
        self.assertEqual((trail.beats, trail.effect().total), (FAR, -FAR))
        book.undo()
        self.assertEqual((book.effect("c").total, book.trail("c").beats), (-FAR, FAR))
        book.redo()
        book.rename("a", "z")
        self.assertEqual(book.effect("c").total, -9 * FAR)

    def test_unknown_names(self):
        book = book_of(a=PUT)
        for name in ("b", "", "A", "aa"):
            self.assertEqual(raised(book.trail, name), (UnknownName, name))
            self.assertEqual(raised(book.effect, name), (UnknownName, name))
        book.rename("a", "b")
        self.assertEqual(raised(book.effect, "a"), (UnknownName, "a"))

    def test_by_keyword(self):
        book = Book(dimension=1)
        book.define(block=PUT, name="a")
        book.redefine(block=PUT * 2, name="a")
        book.rename(new="b", name="a")
        book.apply(command=("define", "c", ()))
        book.apply_all(commands=[])
        book.drop(name="c")
        self.assertEqual((book.trail(name="b").beats, book.effect(name="b").total, book.history()), (2, 2, (6, 0)))

    def test_lists_of_commands_are_not_changed(self):
        commands = [("define", "a", PUT), ("define", "b", ())]
        book = Book(1)
        book.apply_all(commands)
        self.assertEqual(commands, [("define", "a", PUT), ("define", "b", ())])
        commands.clear()
        book.undo()
        book.redo()
        self.assertEqual(book.parts.names(), ["a", "b"])


if __name__ == "__main__":
    unittest.main()
