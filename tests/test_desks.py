"""Point 20 and the section strewfar/desks.py."""

import unittest

from helpers import Dice, Steps, programs, small_block
from strewfar.books import Book
from strewfar.desks import Desk
from strewfar.errors import WrongDimension
from strewfar.parts import Parts
from strewfar.tongue import format_block, parse_block

PUT = (("put", 1),)
FAR = 10 ** 30
NAMES = "abcdefghijkl"
# Questions with their numbers of words, those of a place left out.
LINES = {"rename": 3, "drop": 2, "undo": 1, "redo": 1, "names": 1, "show": 2, "beats": 2, "total": 2, "end": 2,
         "amount": 2, "visits": 2, "same": 3, "differ": 3}


def desk_of(dimension=1, **texts):
    """Return a desk about a book with these texts of parts."""
    blocks = {name: parse_block(text, dimension) for name, text in texts.items()}
    return Desk(book=Book.of(Parts(dimension, blocks)))


def told(desk):
    book = desk.book()
    return book.parts.dimension, book.parts.blocks(), book.history()


class Lines(unittest.TestCase):
    def asked(self, desk, *pairs):
        for line, answer in pairs:
            self.assertEqual(desk.ask(line), answer, line)

    def test_define_and_redefine(self):
        desk = Desk(dimension=1)
        self.asked(desk, ("define a put 2; go 1", "ok"), ("define b ", "ok"), ("define c     ", "ok"),
                   ("define d   put   3;go 1  ;  repeat 2{do a}", "ok"), ("redefine a put 5", "ok"),
                   ("redefine b  ; ", "error ParseError"), ("redefine d ", "ok"),
                   ("define e put 1;", "error ParseError"), ("define e  put 7 ", "ok"),
                   ("redefine e   repeat 3 { }", "ok"))
        self.assertEqual(desk.book().parts.blocks(), {"a": (("put", 5),), "b": (), "c": (), "d": (),
                                                      "e": (("repeat", 3, ()),)})
        self.assertEqual(desk.book().history(), (8, 0))

    def test_show_writes_what_was_defined(self):
        desk = Desk()
        self.asked(desk, ("define a  put 2;go 1  -1 ;repeat 5{ }", "ok"),
                   ("show a", "put 2; go 1 -1; repeat 5 { }"), ("define b ", "ok"), ("show b", ""))

    def test_rename_and_drop(self):
        desk = desk_of(a="put 2", b="do a")
        self.asked(desk, ("rename a c", "ok"), ("show b", "do c"), ("drop b", "ok"), ("names", "c"), ("drop c", "ok"),
                   ("names", "none"))

    def test_undo_and_redo(self):
        desk = desk_of(a="put 2")
        self.asked(desk, ("undo", "error NothingLeft"), ("redo", "error NothingLeft"), ("drop a", "ok"), ("undo", "ok"),
                   ("names", "a"), ("undo", "error NothingLeft"), ("redo", "ok"), ("names", "none"),
                   ("redo", "error NothingLeft"), ("undo", "ok"), ("define b ", "ok"), ("redo", "error NothingLeft"))

    def test_names(self):
        desk = Desk()
        self.asked(desk, ("names", "none"), ("define zz ", "ok"), ("names", "zz"), ("define a do zz", "ok"),
                   ("define abcdefgh ", "ok"), ("names", "a abcdefgh zz"))

    def test_numbers(self):
        desk = desk_of(a="put 2; go 3", b=f"repeat {FAR} {{ do a }}; put 1", c=f"repeat {-FAR} {{ do a }}", d="")
        self.asked(desk, ("beats a", "2"), ("total a", "2"), ("end a", "3"), ("beats b", str(2 * FAR + 1)),
                   ("total b", str(2 * FAR + 1)), ("end b", str(3 * FAR)), ("total c", str(-2 * FAR)),
                   ("end c", str(-3 * FAR)), ("beats d", "0"), ("total d", "0"), ("end d", "0"))
        desk = desk_of(3, a="go 1 -2 0; put -5", d="")
        self.asked(desk, ("end a", "1 -2 0"), ("end d", "0 0 0"), ("total a", "-5"), ("beats a", "2"))

    def test_amount(self):
        desk = desk_of(a="repeat 4 { put 2; go 3 }; put -1")
        self.asked(desk, ("amount a 0", "2"), ("amount a 9", "2"), ("amount a 12", "-1"), ("amount a 1", "0"),
                   ("amount a -3", "0"), ("amount a " + "9" * 31, "0"), ("amount a -" + "9" * 31, "0"))
        desk = desk_of(2, a="go 1 -2; put -5")
        self.asked(desk, ("amount a 1 -2", "-5"), ("amount a 1 2", "0"), ("amount a -2 1", "0"))

    def test_visits(self):
        desk = desk_of(a="repeat 4 { put 2; go 3 }; put -1; repeat 3 { put 0 }")
        self.asked(desk, ("visits a 0", "1 0 0"), ("visits a 9", "1 6 6"), ("visits a 12", "4 8 11"),
                   ("visits a 1", "never"), ("visits a -3", "never"))
        desk = desk_of(3, a="go 1 -2 7; put 0", b="")
        self.asked(desk, ("visits a 1 -2 7", "1 1 1"), ("visits a 0 0 0", "never"), ("visits b 0 0 0", "never"))

    def test_same(self):
        desk = desk_of(a="repeat 6 { put 1; go 2 }", b="repeat -3 { repeat 2 { go -2; put -1 } }", c="do a; go 1",
                       d="do a; put 1")
        self.asked(desk, ("same a b", "yes"), ("same b a", "yes"), ("same a a", "yes"), ("same a c", "no"),
                   ("same d a", "no"))

    def test_differ(self):
        desk = desk_of(a="repeat 6 { put 1; go 2 }", b="repeat 7 { put 1; go 2 }; put 5", c="do a; go 1")
        self.asked(desk, ("differ a b", "12 -1"), ("differ b a", "12 1"), ("differ a c", "nowhere"),
                   ("differ a a", "nowhere"))
        desk = desk_of(3, a="go 1 -2 7; put 5", b="put -1; go 1 -2 7; put 5", c="")
        self.asked(desk, ("differ a b", "0 0 0 1"), ("differ b a", "0 0 0 -1"), ("differ c a", "1 -2 7 -5"))

    def test_drawn_programs(self):
        for dimension, blocks, block, trail, steps in programs(25, 4000, 2):
            desk = Desk(dimension=dimension)
            for name, part in [*blocks.items(), ("c", block)]:
                self.assertEqual(desk.ask(f"define {name} {format_block(part)}"), "ok")
            self.asked(desk, ("beats c", str(steps.beats)), ("end c", " ".join(str(item) for item in steps.shift)),
                       ("total c", str(sum(number for _, _, number, _ in steps.puts))), ("show c", format_block(block)),
                       ("names", "a b c"), ("same c c", "yes"))
            for place in steps.places()[:6]:
                words = " ".join(str(item) for item in place)
                if not desk.ask(f"visits c {words}").startswith("error "):
                    many, first, last = steps.visits(place)
                    self.asked(desk, (f"amount c {words}", str(steps.amount(place))),
                               (f"visits c {words}", f"{many} {first} {last}" if many else "never"))


class Errors(unittest.TestCase):
    def assert_errors(self, desk, *pairs):
        before = told(desk)
        for line, error in pairs:
            self.assertEqual(desk.ask(line), f"error {error}", line)
            self.assertEqual(told(desk), before)

    def test_define(self):
        desk = desk_of(a="put 1", b="do a", deep="repeat 1 { " * 6 + "}" + " }" * 5, puts="; ".join(["put 1"] * 60))
        long = "; ".join(["go 1"] * 61)
        self.assert_errors(
            desk, ("define A put x", "ParseError"), ("define a put 1000000000001", "InvalidBlock"),
            (f"define A {long}", "TooLong"), ("define A put 1", "InvalidName"), ("define abcdefghi ", "InvalidName"),
            ("define a do x", "DuplicateName"), ("define c do x", "UnknownName"), ("define c do c", "UnknownName"),
            ("define c repeat 2 { do deep }", "TooDeep"), ("define c do puts; put 1", "TooMany"),
            ("define ; put 1", "InvalidName"), ("define 5 ", "InvalidName"), ("define c put 1 2", "ParseError"),
            ("define c go 1 2", "ParseError"), ("define c {", "ParseError"), ("define c do A", "ParseError"))

    def test_redefine(self):
        desk = desk_of(a="put 1", b="do a", deep="repeat 1 { " * 6 + "}" + " }" * 5, puts="; ".join(["put 1"] * 60))
        self.assert_errors(
            desk, ("redefine x put", "ParseError"), ("redefine x put 1000000000001", "InvalidBlock"),
            ("redefine x " + "; ".join(["go 1"] * 61), "TooLong"), ("redefine x do y", "UnknownName"),
            ("redefine A ", "UnknownName"), ("redefine a do y", "UnknownName"), ("redefine a do b", "Circular"),
            ("redefine a repeat 2 { do deep }", "TooDeep"), ("redefine a do puts; put 1", "TooMany"))

    def test_rename_and_drop(self):
        self.assert_errors(desk_of(a="put 1", b="do a"), ("rename x A", "UnknownName"), ("rename a A", "InvalidName"),
                           ("rename a 5", "InvalidName"), ("rename a b", "DuplicateName"),
                           ("rename a a", "DuplicateName"), ("drop x", "UnknownName"), ("drop a", "InUse"),
                           ("drop ;", "UnknownName"))

    def test_twelve_parts(self):
        desk = desk_of(**{name: "" for name in NAMES})
        self.assert_errors(desk, ("define m ", "CapacityExceeded"), ("define m do x", "CapacityExceeded"),
                           ("define m put", "ParseError"), ("define M ", "InvalidName"), ("define a ", "DuplicateName"))

    def test_unknown_names(self):
        desk = desk_of(a="put 1")
        for word in ("x", "A", "5", "what", "names", "{", "a;"):
            self.assert_errors(desk, *[(f"{line} {word}", "UnknownName") for line in ("show", "beats", "total", "end",
                                                                                     "drop")],
                               (f"amount {word} 0", "UnknownName"), (f"visits {word} 0", "UnknownName"),
                               (f"same {word} a", "UnknownName"), (f"same a {word}", "UnknownName"),
                               (f"differ {word} {word}", "UnknownName"), (f"differ a {word}", "UnknownName"))

    def test_tangled(self):
        text = "repeat 3 { repeat 3 { repeat 3 { put 1; go 1 }; go 1 }; go 1 }"
        desk = desk_of(a=text, b="put 0; " + text)
        self.assert_errors(desk, ("amount a 0", "Tangled"), ("visits a 99", "Tangled"), ("amount b 0", "Tangled"))
        self.assertEqual((desk.ask("total a"), desk.ask("beats a"), desk.ask("same a b")), ("27", "66", "yes"))

    def test_questions_that_are_too_large(self):
        loops = ["".join(f"repeat 2 {{ put 1; go {stride} }}; " for stride in range(first, first + 4)) + "go 1"
                 for first in (1, 5)]
        desk = desk_of(a=loops[0], b=loops[1], c="do b; repeat 2 { put 1; go 99 }", d="put 5")
        self.assertIn(desk.ask("same a b"), ("yes", "no"))
        self.assert_errors(desk, ("same a c", "Overload"), ("differ c a", "Overload"), ("differ c x", "UnknownName"),
                           ("same x c", "UnknownName"))

    def test_errors_of_the_text_come_first(self):
        desk = desk_of(a="put 1")
        self.assert_errors(desk, ("define a put", "ParseError"), ("define A go", "ParseError"),
                           ("redefine x 5", "ParseError"), ("redefine ; put 1000000000001", "InvalidBlock"))


class What(unittest.TestCase):
    def assert_what(self, desk, *lines):
        before = told(desk)
        for line in lines:
            self.assertEqual(desk.ask(line), "what", line)
            self.assertEqual(told(desk), before)

    def test_other_words(self):
        self.assert_what(desk_of(a="put 1"), "", " ", "  ", "what", "Names", "name", "shows a", "DROP a", "ask", "none",
                         "books", "moved a", "power a 2", "defined b ", "define; b ", "repeat 2 { }", "put 1", "0")

    def test_other_numbers_of_words(self):
        for dimension in (1, 2, 3):
            desk = desk_of(dimension, a="", b="")
            for word, size in LINES.items():
                size += dimension if word in ("amount", "visits") else 0
                words = [word, "a", *("0" if word in ("amount", "visits") else "b") * 6]
                for many in range(1, 8):
                    if many != size:
                        self.assert_what(desk, " ".join(words[:many]))
                other = Desk(book=desk.book().clone())
                self.assertNotEqual(other.ask(" ".join(words[:size])), "what")

    def test_empty_words(self):
        desk = desk_of(a="put 1", b="do a")
        for line in ("rename a c", "drop b", "undo", "redo", "names", "show a", "beats a", "total a", "end a",
                     "amount a 0", "visits a 0", "same a b", "differ a b"):
            self.assert_what(desk, line + " ", " " + line, line.replace(" ", "  ", 1) if " " in line else line + "  ",
                             line.replace(" ", "  ") if " " in line else "  " + line)
        self.assert_what(desk, "amount  0", "visits a ", "same a ", "same  a", "show ", "drop ")

    def test_define_without_a_text(self):
        self.assert_what(desk_of(a="put 1"), "define", "define ", "define  ", "define b", "define  put 1", "define   ",
                         " define b ", "redefine", "redefine ", "redefine a", "redefine  put 1", "redefine  a put 1",
                         "define  b put 1", "define  b ")

    def test_words_that_are_no_integers(self):
        wrong = ("x", "1.0", "+1", "01", "-0", "00", "-01", "--1", "1-", "-", "1e3", "0x1", "1_0", "1;", "{", "a",
                 "None", "9" * 32, "-" + "1" * 32, "1,", "(1)")
        for dimension in (1, 2, 3):
            desk = desk_of(dimension, a="put 1")
            for at in range(dimension):
                for word in wrong:
                    words = ["0"] * dimension
                    words[at] = word
                    for name in ("a", "x"):
                        self.assert_what(desk, f"amount {name} " + " ".join(words),
                                         f"visits {name} " + " ".join(words))

    def test_integers_at_the_limit(self):
        desk = desk_of(2, a="put 1")
        for word in ("9" * 31, "-" + "9" * 31, "0", "-1", "10"):
            self.assertEqual(desk.ask(f"amount a {word} {word}"), "1" if word == "0" else "0")
            self.assertEqual(desk.ask(f"visits x 0 {word}"), "error UnknownName")


class Desks(unittest.TestCase):
    def test_without_arguments(self):
        desk = Desk()
        self.assertEqual((desk.book(), desk.book().history()), (Book(2), (0, 0)))
        self.assertIsInstance(desk.book(), Book)
        self.assertEqual((desk.ask("define a go 1 2"), desk.ask("end a"), desk.ask("amount a 0")),
                         ("ok", "1 2", "what"))
        self.assertIsNot(Desk().book(), Desk().book())

    def test_dimensions(self):
        for dimension in (1, 2, 3):
            self.assertEqual(Desk(dimension=dimension).book(), Book(dimension))
        for dimension in (0, 4, -1):
            with self.assertRaises(WrongDimension) as caught:
                Desk(dimension=dimension)
            self.assertEqual(caught.exception.given, dimension)
        with self.assertRaises(TypeError):
            Desk(Book(1))

    def test_the_given_book_itself(self):
        for book in (Book(1), Book(3), Book.of(Parts(1, {"a": PUT}))):
            desk = Desk(dimension=2, book=book)
            self.assertIs(desk.book(), book)
            self.assertEqual(desk.ask("define b "), "ok")
            self.assertEqual((book.parts.names()[-1], book.history()), ("b", (1, 0)))
            book.undo()
            self.assertEqual((desk.ask("show b"), desk.ask("redo"), desk.ask("show b")),
                             ("error UnknownName", "ok", ""))

    def test_two_desks_about_one_book(self):
        one = Desk(dimension=1)
        other = Desk(book=one.book())
        self.assertEqual((one.ask("define a put 3"), other.ask("total a")), ("ok", "3"))
        self.assertEqual((other.ask("redefine a put 4"), one.ask("total a")), ("ok", "4"))
        self.assertEqual((one.ask("undo"), other.ask("total a"), other.ask("undo"), one.ask("names")),
                         ("ok", "3", "ok", "none"))
        self.assertEqual((one.ask("redo"), other.ask("redo"), other.ask("redo")), ("ok", "ok", "error NothingLeft"))

    def test_a_desk_about_a_clone(self):
        one = Desk(dimension=1)
        one.ask("define a put 3")
        other = Desk(book=one.book().clone())
        self.assertEqual((other.ask("drop a"), one.ask("names"), other.ask("names")), ("ok", "a", "none"))
        self.assertEqual((one.ask("undo"), other.ask("undo"), other.ask("names"), one.ask("names")),
                         ("ok", "ok", "a", "none"))

    def test_questions_change_nothing(self):
        desk = desk_of(2, a="put 1", b="do a; go 1 1")
        desk.ask("define c ")
        desk.ask("undo")
        before = told(desk)
        for line in ("names", "show a", "beats a", "total b", "end b", "amount a 0 0", "visits b 1 1", "same a b",
                     "differ a b", "what", "show x"):
            self.assertEqual((desk.ask(line=line), told(desk)), (desk.ask(line), before))
        self.assertEqual(desk.ask("redo"), "ok")

    def test_drawn_lines(self):
        """Whatever a line has, the answer is a text; a line that is not ok leaves the book as it was."""
        dice, desk = Dice(9), desk_of(a="put 1; go 2", b="do a")
        words = ["define", "redefine", "rename", "drop", "undo", "redo", "names", "show", "amount", "same", "a", "b",
                 "c", "put 1", "go 2", "", "0", ";", "{ }", "repeat 2", "do a"]
        for _ in range(3000):
            before = told(desk)
            answer = desk.ask(" ".join(words[dice.roll(len(words))] for _ in range(dice.roll(6))))
            self.assertIsInstance(answer, str)
            self.assertTrue(answer == "ok" or told(desk) == before)

    def test_desks_against_books(self):
        for dimension in (1, 2, 3):
            dice, desk, book = Dice(dimension), Desk(dimension=dimension), Book(dimension)
            for name in "abcd":
                block = small_block(dice, dimension, 1, book.parts.names())
                self.assertEqual(desk.ask(f"define {name} {format_block(block)}"), "ok")
                book.define(name, block)
                self.assertEqual((desk.book(), desk.book().history()), (book, book.history()))
                steps = Steps(dimension, book.parts.blocks(), block)
                self.assertEqual(desk.ask(f"beats {name}"), str(steps.beats))


if __name__ == "__main__":
    unittest.main()
