"""Points 7 and 8 and the section strewfar/tables.py."""

import unittest

from helpers import programs
from strewfar.books import Book
from strewfar.parts import Parts
from strewfar.tables import table

FAR = 10 ** 30
SPACES = " " * 80


def grouped(number):
    """Return a number with commas between groups of three digits, made by hand."""
    digits, groups = str(abs(number)), []
    while digits:
        digits, groups = digits[:-3], [digits[-3:], *groups]
    return ("-" if number < 0 else "") + ",".join(groups)


def row_of(name, beats, total, shift):
    columns = [grouped(beats), grouped(total)]
    columns = [SPACES[:max(0, 14 - len(column))] + column for column in columns]
    return " ".join([(name + SPACES)[:8], *columns, *[str(item) for item in shift]]) + "\n"


class Tables(unittest.TestCase):
    def test_no_parts(self):
        for dimension in (1, 2, 3):
            self.assertEqual(table(Parts.empty(dimension)), "")

    def test_one_part(self):
        self.assertEqual(table(Parts(1, {"a": (("put", 1500), ("go", (3,)))})),
                         "a                     2          1,500 3\n")

    def test_several_parts(self):
        parts = Parts(2, {"row": (("repeat", 1000, (("put", -2), ("go", (1, -1)))),), "a": (),
                          "abcdefgh": (("undo", "row"), ("put", 999)), "b": (("put", 0),)})
        self.assertEqual(table(parts=parts),
                         "a                     0              0 0 0\n"
                         "abcdefgh          2,001          2,999 -1000 1000\n"
                         "b                     1              0 0 0\n"
                         "row               2,000         -2,000 1000 -1000\n")

    def test_totals_below_zero(self):
        for number, text in ((-1, "-1"), (-999, "-999"), (-1000, "-1,000"), (-999999, "-999,999"),
                             (-10 ** 9, "-1,000,000,000"), (-10 ** 10, "-10,000,000,000"), (10 ** 6, "1,000,000")):
            row = "a" + SPACES[:7] + " " + SPACES[:13] + "1 " + SPACES[:max(0, 14 - len(text))] + text + " 0 0 0\n"
            self.assertEqual(table(Parts(3, {"a": (("put", number),)})), row)

    def test_columns_that_are_just_full(self):
        parts = Parts(1, {"abcdefgh": (("repeat", 9999999999, (("put", -1),)), ("go", (-7,)))})
        self.assertEqual(table(parts), "abcdefgh 10,000,000,000 -9,999,999,999 -7\n")

    def test_numbers_longer_than_their_columns(self):
        parts = Parts(1, {"a": (("repeat", FAR, (("put", -1), ("go", (5,)))),),
                          "b": (("repeat", 10 ** 11, (("put", 3),)),)})
        far = ",000" * 10
        self.assertEqual(table(parts), f"a        2{far} -1{far} {5 * FAR}\n"
                                       "b        100,000,000,000 300,000,000,000 0\n")

    def test_drawn_parts(self):
        for dimension, blocks, block, _, steps in programs(40, 5000, 3):
            rows = table(Parts(dimension, {**blocks, "c": block})).splitlines(keepends=True)
            total = sum(number for _, _, number, _ in steps.puts)
            self.assertEqual((len(rows), rows[2]), (3, row_of("c", steps.beats, total, steps.shift)))

    def test_parts_of_books(self):
        book = Book(1)
        book.define("b", (("put", 2),))
        self.assertEqual(table(book.parts), row_of("b", 1, 2, (0,)))
        book.define("a", (("do", "b"), ("go", (-4,))))
        self.assertEqual(table(book.parts), row_of("a", 2, 2, (-4,)) + row_of("b", 1, 2, (0,)))


if __name__ == "__main__":
    unittest.main()
