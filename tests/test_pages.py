"""Point 19 and the section strewfar/pages.py."""

import re
import unittest

from helpers import Dice, fields_of, measure, named_in, nested, small_block, uses
from strewfar.books import Book
from strewfar.errors import InvalidBlock, NothingLeft, ParseError, TooLong
from strewfar.pages import format_book, parse_book
from strewfar.parts import Parts
from strewfar.tongue import format_block, parse_block

PUT = (("put", 1),)
FAR = 10 ** 30
NAMES = "abcdefghijklm"


def page(*rows):
    return "".join(f"{row}\n" for row in rows)


def wrong_at(text):
    """Return the index that ParseError tells, or None if the text is parsed."""
    error = fields_of(parse_book, text)
    assert error is None or error[0] is ParseError
    return error and error[1]


def expected_at(text):
    """Return the index that ParseError should tell, found row by row with other means."""
    *rows, rest = text.split("\n")
    blocks, names = {}, [""]
    for index, row in enumerate(rows):
        if index == 0:
            if row not in ("ground 1", "ground 2", "ground 3"):
                return 0
            continue
        found = re.fullmatch("part ([a-z]{1,8}):(| (.+))", row)
        block = found and block_of(found.group(3) or "", int(rows[0][-1]))
        if block is None or found.group(1) <= names[-1] or index == 13:
            return index
        names.append(found.group(1))
        blocks[found.group(1)] = block
    if rest or not rows:
        return len(rows)
    return faulty_row(blocks)


def block_of(text, dimension):
    """Return the block of a text that is written as it should be, or None."""
    try:
        block = parse_block(text, dimension)
    except (ParseError, InvalidBlock, TooLong):
        return None
    return block if format_block(block) == text else None


def faulty_row(blocks):
    """Return the index of the row for which Parts raises its error, or None."""
    unknown = [name for name in blocks if set(named_in(blocks[name])) - set(blocks)]
    faulty = unknown or [name for name in blocks if name in uses(blocks, name)]
    for name in [] if faulty else blocks:
        depth, puts = measure(blocks, blocks[name])
        if depth > 6 or puts > 60:
            faulty.append(name)
    return list(blocks).index(faulty[0]) + 1 if faulty else None


class ThereAndBack(unittest.TestCase):
    def test_texts(self):
        for dimension in (1, 2, 3):
            self.assertEqual(format_book(Book(dimension)), f"ground {dimension}\n")
        book = Book.of(Parts(2, {"b": (("go", (1, -2)), ("repeat", -3, (("put", 0),))), "a": (), "home": (
            ("undo", "b"), ("repeat", 0, ()))}))
        self.assertEqual(format_book(book), page("ground 2", "part a:", "part b: go 1 -2; repeat -3 { put 0 }",
                                                 "part home: undo b; repeat 0 { }"))

    def test_drawn_books(self):
        for dimension in (1, 2, 3):
            dice = Dice(dimension)
            for _ in range(60):
                blocks = {}
                for name in ("zz", "z", "abcdefgh", "b")[dice.roll(4):]:
                    blocks[name] = small_block(dice, dimension, 1, sorted(blocks))
                book = Book.of(Parts(dimension, blocks))
                text = format_book(book)
                rows = [f"ground {dimension}"] + [f"part {name}: {format_block(blocks[name])}".removesuffix(" ")
                                                  for name in sorted(blocks)]
                self.assertEqual(text, page(*rows))
                again = parse_book(text)
                self.assertEqual((again, again.parts.blocks(), again.parts.dimension), (book, blocks, dimension))
                self.assertEqual((again.history(), format_book(again)), ((0, 0), text))

    def test_a_book_without_a_history(self):
        book = parse_book(page("ground 1", "part a: put 1"))
        self.assertIsInstance(book, Book)
        with self.assertRaises(NothingLeft):
            book.undo()
        book.drop("a")
        self.assertEqual(format_book(book), "ground 1\n")
        book.undo()
        self.assertEqual(format_book(book=book), page("ground 1", "part a: put 1"))
        self.assertEqual(parse_book(text=format_book(book)), book)

    def test_twelve_parts(self):
        rows = [f"part {name}:" for name in NAMES[:12]]
        self.assertEqual(len(parse_book(page("ground 3", *rows))), 12)
        self.assertEqual(parse_book(page("ground 3", *rows)), Book.of(Parts(3, {name: () for name in NAMES[:12]})))

    def test_parts_may_stand_behind_those_that_use_them(self):
        text = page("ground 1", "part a: do b; undo c", "part b: undo c", "part c: put 4")
        self.assertEqual(parse_book(text).effect("a").total, -8)

    def test_formatting_changes_nothing(self):
        book = Book(1)
        book.define("a", PUT)
        before = book.clone()
        format_book(book)
        self.assertEqual((book, book.history()), (before, (1, 0)))


class Wrong(unittest.TestCase):
    def test_empty_texts(self):
        for text in ("", "x", "ground 1", "part a:", " ", "ground 1 part a:"):
            self.assertEqual(wrong_at(text), 0)

    def test_the_ground(self):
        for row in ("", "ground", "ground ", "ground 0", "ground 4", "ground 01", "ground 1 ", " ground 1", "ground  1",
                    "Ground 1", "ground -1", "ground 12", "ground one", "ground: 1", "part a:", "ground\t1", "ground1",
                    "ground +1", "ground 2;"):
            for rows in ((), ("part a: put 1",), ("part A:",)):
                self.assertEqual(wrong_at(page(row, *rows)), 0)

    def test_the_form_of_a_row(self):
        for row in ("", "part", "part ", "part b", "part b ", "part :", "part: put 1", "part b:put 1", "part b : put 1",
                    "part  b: put 1", " part b: put 1", "part b: put 1 ", "part b:  put 1", "part b: ", "part b:  ",
                    "Part b: put 1", "b: put 1", "part b; put 1", "part b: put 1;", "part b: ; put 1", "part b: put  1",
                    "part b: put 1;go 2", "part b: put 1 ; go 2", "part b: repeat 5 {}", "part b: repeat 5 {  }",
                    "part b: repeat 5 {put 1}", "part b: repeat 5{ put 1 }", "part b: put 01", "part b: put -0",
                    "part b: put +1", "part b:: put 1", "part b: part b: put 1", "part b: go 1 2", "part b: go",
                    "part b: put", "part b: do", "part b: do C", "part b: repeat 2 { put 1", "part b: put 1 }",
                    "part b: walk 3", "ground 1", "part b: repeat 2", "part b put 1", "partb: put 1", "part\tb: put 1"):
            for rows in ((), ("part c: put 2",), ("",), ("part x: do nobody",)):
                self.assertEqual(wrong_at(page("ground 1", "part a:", row, *rows)), 2, row)
                self.assertEqual(expected_at(page("ground 1", "part a:", row, *rows)), 2)

    def test_names(self):
        for name in ("", "A", "aB", "a1", "a b", "abcdefghi", "a-", "b.", "a:"):
            self.assertEqual(wrong_at(page("ground 1", f"part {name}: put 1", "part zz:")), 1)
        for first, second, index in (("a", "b", None), ("b", "a", 2), ("a", "a", 2), ("a", "aa", None), ("aa", "a", 2),
                                     ("az", "b", None), ("b", "az", 2), ("zzzzzzzz", "zzzzzzz", 2)):
            self.assertEqual(wrong_at(page("ground 2", f"part {first}: put 1", f"part {second}: put 1")), index)

    def test_blocks(self):
        long = "; ".join(["put 1"] * 61)
        for text in ("put 1000000000001", "go -1000000000001", f"repeat {10 ** 30 + 1} {{ }}", long,
                     f"repeat 1 {{ {'; '.join(['go 1'] * 60)} }}", "put " + "9" * 32,
                     "repeat 2 { put 1; go 9999999999999 }"):
            self.assertEqual(wrong_at(page("ground 1", "part a: put 1", f"part b: {text}", "part c: do x")), 2)
            self.assertEqual(expected_at(page("ground 1", "part a: put 1", f"part b: {text}", "part c: do x")), 2)
        text = "; ".join(["go 1"] * 60)
        self.assertIsNone(wrong_at(page("ground 1", f"part a: {text}", "part b: put 1000000000000; go -1000000000000",
                                        f"part c: repeat {-FAR} {{ }}")))

    def test_vectors_of_another_dimension(self):
        for dimension in (1, 2, 3):
            for many in (1, 2, 3):
                text = page(f"ground {dimension}", "part a: go" + " 7" * many)
                self.assertEqual(wrong_at(text), None if many == dimension else 1)

    def test_a_thirteenth_part(self):
        rows = [f"part {name}:" for name in NAMES]
        self.assertEqual(wrong_at(page("ground 1", *rows)), 13)
        self.assertEqual(wrong_at(page("ground 1", *rows, "part z: put x")), 13)
        self.assertEqual(wrong_at(page("ground 1", *rows[:12], "part z: put x")), 13)
        self.assertEqual(wrong_at(page("ground 1", *rows[:11], "part z: put x", "part zz:")), 12)
        self.assertEqual(wrong_at(page("ground 1", "part a: do nobody", *rows[1:])), 13)

    def test_text_behind_the_last_line_feed(self):
        for rest in (" ", "x", "part b:", "part b: put 1", "part a: put 1", "ground 1"):
            self.assertEqual(wrong_at(page("ground 1") + rest), 1)
            self.assertEqual(wrong_at(page("ground 1", "part a: put 1") + rest), 2)
            self.assertEqual(wrong_at(page("ground 1", "part a: do nobody") + rest), 2)
            self.assertEqual(wrong_at(page("ground 1", "part A:", "part b:") + rest), 1)
            self.assertEqual(wrong_at(page("ground 7", "part a:") + rest), 0)

    def test_empty_rows(self):
        self.assertEqual(wrong_at("\n"), 0)
        self.assertEqual(wrong_at("\nground 1\n"), 0)
        self.assertEqual(wrong_at("ground 1\n\n"), 1)
        self.assertEqual(wrong_at("ground 1\n\npart a:\n"), 1)
        self.assertEqual(wrong_at("ground 1\npart a:\n\n"), 2)

    def test_unknown_parts(self):
        self.assertEqual(wrong_at(page("ground 1", "part a: put 1", "part b: do c")), 2)
        self.assertEqual(wrong_at(page("ground 1", "part a: do a; do b", "part c: do d")), 1)
        self.assertEqual(wrong_at(page("ground 1", "part a: put 1", "part b: do a; repeat 0 { undo d }",
                                       "part c: do e")), 2)

    def test_circles(self):
        self.assertEqual(wrong_at(page("ground 1", "part a: put 1", "part b: undo b")), 2)
        self.assertEqual(wrong_at(page("ground 1", "part a: do b", "part b: do c", "part c: undo b")), 2)
        self.assertEqual(wrong_at(page("ground 1", "part a: do c", "part b: put 1", "part c: do a")), 1)

    def test_parts_that_are_too_large(self):
        deep = format_block(nested(7))
        puts = "; ".join(["put 1"] * 31)
        self.assertEqual(wrong_at(page("ground 1", "part a: put 1", f"part b: {deep}")), 2)
        self.assertEqual(wrong_at(page("ground 1", "part a: do c", "part b: put 1", f"part c: {deep}")), 1)
        self.assertEqual(wrong_at(page("ground 1", f"part a: {puts}", "part b: do a", "part c: do a; undo a")), 3)
        self.assertEqual(wrong_at(page("ground 1", f"part a: {puts}", "part b: do a; do a", f"part c: {deep}")), 2)
        self.assertEqual(wrong_at(page("ground 1", f"part a: {format_block(nested(6))}", "part b: repeat 2 { do a }",
                                       "part c: do b")), 2)
        self.assertIsNone(wrong_at(page("ground 1", f"part a: {format_block(nested(6))}", f"part b: {puts}")))

    def test_the_order_of_errors_of_parts(self):
        deep = format_block(nested(7))
        self.assertEqual(wrong_at(page("ground 1", f"part a: {deep}", "part b: do b", "part c: do nobody")), 3)
        self.assertEqual(wrong_at(page("ground 1", f"part a: {deep}", "part b: do b", "part c: put 1")), 2)
        self.assertEqual(wrong_at(page("ground 1", f"part a: {deep}", "part b: put 1", "part c: put 1")), 1)

    def test_bent_texts(self):
        found = {}
        for seed in range(400):
            dice = Dice(seed)
            text = self.bent(dice, self.drawn_page(dice))
            index = expected_at(text)
            with self.subTest(text=text):
                self.assertEqual(wrong_at(text), index)
                if index is None:
                    self.assertEqual(format_book(parse_book(text)), text)
            found[index] = found.get(index, 0) + 1
        for index in (None, 0, 1, 2, 3):
            self.assertGreater(found.get(index, 0), 10)

    def drawn_page(self, dice):
        names = sorted({"abcdefgh"[dice.roll(8):][:1 + dice.roll(2)] for _ in range(1 + dice.roll(5))})
        rows = []
        for name in names:
            block = small_block(dice, 1, 3, names if dice.roll(3) == 0 else [other for other in names if other > name])
            if dice.roll(6) == 0:
                block += (("repeat", 2, nested(2 + dice.roll(6))), *PUT * dice.roll(50))
            rows.append(f"part {name}: {format_block(block)}".removesuffix(" "))
        return page("ground 1", *rows)

    def bent(self, dice, text):
        kind, at = dice.roll(8), dice.roll(len(text) + 1)
        if kind == 0:
            return text[:at] + text[at + 1:]
        if kind == 1:
            return text[:at] + "; {}:a1\n-"[dice.roll(9)] + text[at:]
        if kind == 2:
            return text[:at]
        if kind == 3:
            rows = text.splitlines()
            rows.insert(dice.roll(len(rows) + 1), rows[dice.roll(len(rows))])
            return page(*rows)
        return text


if __name__ == "__main__":
    unittest.main()
