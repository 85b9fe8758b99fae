"""Point 18 and the section strewfar/tongue.py."""

import re
import unittest

from helpers import Dice, fields_of, nested, random_block
from strewfar.blocks import check_block
from strewfar.errors import InvalidBlock, ParseError, TooLong
from strewfar.tongue import format_block, parse_block

TEXTS = {
    "": (),
    "go 1": (("go", (1,)),),
    "go -5": (("go", (-5,)),),
    "go 1 0": (("go", (1, 0)),),
    "go -1 0 1000000000000": (("go", (-1, 0, 10 ** 12)),),
    "put 0": (("put", 0),),
    "put -3": (("put", -3),),
    "put 1000000000000": (("put", 10 ** 12),),
    "do a": (("do", "a"),),
    "undo abcdefgh": (("undo", "abcdefgh"),),
    "do do; undo undo": (("do", "do"), ("undo", "undo")),
    "repeat 5 { }": (("repeat", 5, ()),),
    "repeat 0 { }; put 1": (("repeat", 0, ()), ("put", 1)),
    "repeat -1000000000000000000000000000000 { do a }": (("repeat", -10 ** 30, (("do", "a"),)),),
    "repeat 2 { put 1; repeat 3 { repeat 4 { }; do b } }; put 2":
        (("repeat", 2, (("put", 1), ("repeat", 3, (("repeat", 4, ()), ("do", "b"))))), ("put", 2)),
}
DIMENSIONS = {"go 1 0": 2, "go -1 0 1000000000000": 3}


def wrong_position(text, dimension):
    """Return the position at which a text cannot go on, or None: a machine with a stack instead of a reader."""
    tokens = [(found.group(), found.start()) for found in re.finditer("[;{}]|[^;{} ]+", text)]
    wanted = ["begin"]
    opened = 0
    for token, position in tokens + [("", len(text))]:
        state = wanted.pop()
        if state in ("begin", "statement") and token in ("go", "put", "repeat", "do", "undo"):
            wanted.append("after")
            wanted += {"go": ["number"] * dimension, "put": ["number"], "repeat": ["{", "number"]}.get(token, ["name"])
        elif state in ("begin", "after") and token == ("}" if opened > 0 else ""):
            opened -= 1
        elif state == "after" and token == ";":
            wanted.append("statement")
        elif state == "{" and token == "{" and opened < 60:
            opened += 1
            wanted.append("begin")
        elif state == "number" and re.fullmatch("0|-?[1-9][0-9]{0,30}", token):
            pass
        elif state == "name" and re.fullmatch("[a-z]{1,8}", token):
            pass
        else:
            return position
    return None


class Writing(unittest.TestCase):
    def test_each_kind_of_statement(self):
        for text, block in TEXTS.items():
            with self.subTest(text=text):
                self.assertEqual(format_block(block), text)

    def test_many_levels(self):
        self.assertEqual(format_block(nested(3)), "repeat 1 { repeat 1 { repeat 1 { } } }")
        self.assertEqual(format_block(nested(60)), "repeat 1 { " * 60 + "} " * 59 + "}")

    def test_blocks_of_any_length(self):
        self.assertEqual(format_block((("put", 1),) * 1000), "; ".join(["put 1"] * 1000))


class Reading(unittest.TestCase):
    def test_each_kind_of_statement(self):
        for text, block in TEXTS.items():
            with self.subTest(text=text):
                self.assertEqual(parse_block(text, DIMENSIONS.get(text, 1)), block)

    def test_reading_back(self):
        dice = Dice(1)
        for _ in range(300):
            dimension = 1 + dice.roll(3)
            block = random_block(dice, dimension, 3)
            self.assertEqual(parse_block(format_block(block), dimension), block)

    def test_other_spaces(self):
        for text, block in TEXTS.items():
            dimension = DIMENSIONS.get(text, 1)
            with self.subTest(text=text):
                self.assertEqual(parse_block(text.replace(" ", "   "), dimension), block)
                self.assertEqual(parse_block("  " + text + "   ", dimension), block)
                self.assertEqual(parse_block(re.sub("([;{}])", "  \\1  ", text), dimension), block)

    def test_no_spaces_where_a_sign_stands(self):
        for text, block in TEXTS.items():
            with self.subTest(text=text):
                self.assertEqual(parse_block(re.sub(" *([;{}]) *", "\\1", text), DIMENSIONS.get(text, 1)), block)
        self.assertEqual(parse_block("repeat 2{put 1;repeat 3{}}", 1),
                         (("repeat", 2, (("put", 1), ("repeat", 3, ()))),))

    def test_spaces_only(self):
        for count in (0, 1, 7):
            self.assertEqual(parse_block(" " * count, 1), ())


class WrongTexts(unittest.TestCase):
    def check(self, position, text, dimension=1):
        with self.subTest(text=text, dimension=dimension):
            self.assertEqual(fields_of(parse_block, text, dimension), (ParseError, position))

    def test_tokens_left_out(self):
        self.check(6, "put 5 go 1")
        self.check(4, "put ; go 1")
        self.check(7, "repeat { }")
        self.check(9, "repeat 5 }")
        self.check(9, "repeat 5 put 1 }")
        self.check(0, "5")
        self.check(0, "a")
        self.check(0, "; put 1")
        self.check(0, "{ put 1 }")
        self.check(0, "}")
        self.check(6, "put 1 }")
        self.check(13, "repeat 2 { } }")
        self.check(11, "repeat 2 { ; }")
        self.check(18, "repeat 2 { put 1; }")
        self.check(7, "put 1; ; put 1")

    def test_tokens_doubled(self):
        self.check(4, "put put 1")
        self.check(6, "put 1 1")
        self.check(6, "put 1;; put 1")
        self.check(5, "do a b")
        self.check(9, "repeat 2 2 { }")
        self.check(11, "repeat 2 { { } }")

    def test_tokens_replaced(self):
        self.check(0, "stay 1")
        self.check(0, "Put 1")
        self.check(0, "put1")
        self.check(4, "put x")
        self.check(4, "put put")
        self.check(3, "go a")
        self.check(4, "put 5,go 1")
        self.check(9, "repeat 2 ( put 1 )")
        self.check(8, "repeat 5}")
        self.check(3, "do { }")

    def check_early(self, text, dimension=1):
        self.check(len(text), text, dimension)

    def test_texts_that_end_too_early(self):
        for text in ("go", "put", "do", "undo", "repeat", "repeat 2", "repeat 2 {", "repeat 2 { put 1",
                     "repeat 2 { put 1;", "put 1;", "put 1; ", "put 1 ;  ", "put ", "  put  ", "repeat 1 { repeat 1 { }"):
            self.check_early(text)

    def test_line_feeds(self):
        self.check(0, "\n")
        self.check(0, "put\n5")
        self.check(4, "put 5\n")
        self.check(0, "\nput 5")
        self.check(4, "put \n5")
        self.check(3, "do a\n")
        self.check(6, "put 5;\nput 6")
        self.check(6, "put 5 \n")
        self.check(11, "repeat 2 { \n }")

    def test_the_first_wrong_token_counts(self):
        self.check(4, "put x; put y; stay")
        self.check(4, "put x; repeat 2 {")

    def test_words_that_are_not_names(self):
        for word in ("A", "aB", "a1", "1", "a-b", "abcdefghi", "a\n", "-", "a_b", ";", "{", "}"):
            self.check(3, f"do {word}")
            self.check(5, f"undo {word}")
            self.check(16, f"repeat 2 {{ undo {word} }}")

    def test_vectors_of_another_dimension(self):
        self.check(5, "go 1 0", 1)
        self.check(5, "go 1 0; put 1", 1)
        self.check(9, "put 1; go", 1)
        self.check(3, "go ; put 1", 1)
        self.check_early("go 1", 2)
        self.check(4, "go 1; put 1", 2)
        self.check(7, "go 1 0 0", 2)
        self.check_early("go 1 0", 3)
        self.check(9, "go 1 2 3 4", 3)
        self.check(16, "repeat 2 { go 1 }", 2)

    def test_changed_texts(self):
        text = "repeat -2 { go 1 0; repeat 3 { }; undo ab }; put 7"
        tokens = re.findall("[;{}]|[^;{} ]+", text)
        others = [*sorted(set(tokens)), "a", "-", "0", "01", "x y", "go 1 1", "\n", "9" * 31, "9" * 32, "", "} ; {"]
        for index in range(len(tokens)):
            for other in [*others, f"{tokens[index]} {tokens[index]}"]:
                changed = " ".join([*tokens[:index], other, *tokens[index + 1:]])
                self.compare(changed)
                self.compare(re.sub(" *([;{}]) *", "\\1", changed))
        for length in range(len(text)):
            self.compare(text[:length])

    def compare(self, text):
        position = wrong_position(text, 2)
        with self.subTest(text=text):
            if position is not None:
                self.assertEqual(fields_of(parse_block, text, 2), (ParseError, position))
            elif "9" * 31 in text:
                self.assertIs(fields_of(parse_block, text, 2)[0], InvalidBlock)
            else:
                words = " ".join(re.findall("[;{}]|[^;{} ]+", text)).replace(" ;", ";")
                self.assertEqual(format_block(parse_block(text, 2)), words)


class Numbers(unittest.TestCase):
    def places(self, number):
        """Return texts with a number and the position of the number in each."""
        return (f"put {number}", 4), (f"go {number}", 3), (f"repeat {number} {{ }}", 7), (f"put 1;put {number}", 10)

    def test_numbers_that_are_no_tokens(self):
        for number in ("1" * 32, "-" + "1" * 32, "9" * 5000, "-" + "9" * 5000, "0" * 32, "1" + "0" * 31, "00", "01",
                       "007", "-01", "-0", "-00", "-", "--1", "+1", "+0", "1-", "1-1", "1.0", "1,000", "1_000", "0x1",
                       "1e3", "\u0661", "\u00b2", "1" + "\n"):
            for text, position in self.places(number):
                with self.subTest(text=text):
                    self.assertEqual(fields_of(parse_block, text, 1), (ParseError, position))

    def test_the_longest_numbers(self):
        self.assertEqual(parse_block(f"repeat {10 ** 30} {{ }}", 1), (("repeat", 10 ** 30, ()),))
        self.assertEqual(parse_block(f"repeat -{10 ** 30} {{ }}", 1), (("repeat", -(10 ** 30), ()),))
        for number in ("9" * 31, "-" + "9" * 31, str(10 ** 30 + 1), str(-10 ** 30 - 1)):
            for text, _ in self.places(number):
                with self.subTest(text=text):
                    path = (1,) if ";" in text else (0,)
                    self.assertEqual(fields_of(parse_block, text, 1), (InvalidBlock, path))

    def test_numbers_out_of_bounds(self):
        for number in (10 ** 12 + 1, -10 ** 12 - 1, 10 ** 30):
            self.assertEqual(fields_of(parse_block, f"put {number}", 1), (InvalidBlock, (0,)))
            self.assertEqual(fields_of(parse_block, f"put 1; go 0 {number}", 2), (InvalidBlock, (1,)))
            text = f"put 1; repeat 2 {{ go 1; put {number}; put {number} }}"
            self.assertEqual(fields_of(parse_block, text, 1), (InvalidBlock, (1, 1)))
            self.assertEqual(parse_block(f"repeat {number} {{ }}", 1), (("repeat", number, ()),))

    def test_numbers_at_the_bounds(self):
        for number in (10 ** 12, -10 ** 12, 0, -1):
            self.assertEqual(parse_block(f"put {number}; go {number}", 1), (("put", number), ("go", (number,))))


class Limits(unittest.TestCase):
    def test_sixty_open_braces(self):
        text = "repeat 1 { " * 60 + "} " * 60
        self.assertEqual(parse_block(text, 1), nested(60))
        self.assertEqual(parse_block(text.replace(" ", "").replace("repeat", "repeat "), 1), nested(60))

    def test_sixty_one_open_braces(self):
        self.assertEqual(fields_of(parse_block, "repeat 1 { " * 61 + "} " * 61, 1), (ParseError, 60 * 11 + 9))
        self.assertEqual(fields_of(parse_block, "repeat 1 { " * 700, 1), (ParseError, 60 * 11 + 9))
        self.assertEqual(fields_of(parse_block, "repeat 1 { " * 60 + "repeat 1 }", 1), (ParseError, 60 * 11 + 9))
        self.assertEqual(fields_of(parse_block, "{" * 8000, 1), (ParseError, 0))

    def test_each_closed_brace_makes_room_for_one(self):
        text = "repeat 1 { }; " + "repeat 1 { " * 61
        self.assertEqual(fields_of(parse_block, text, 1), (ParseError, 14 + 60 * 11 + 9))
        text = "repeat 1 { " * 59 + "repeat 1 { }; repeat 1 { repeat 1 { } }" + " }" * 59
        self.assertEqual(fields_of(parse_block, text, 1), (ParseError, 59 * 11 + 14 + 11 + 9))

    def test_closed_braces_do_not_count(self):
        text = "; ".join(["repeat 1 { repeat 1 { } }"] * 30)
        self.assertEqual(parse_block(text, 1), (("repeat", 1, (("repeat", 1, ()),)),) * 30)
        text = "repeat 1 { " * 58 + "repeat 1 { repeat 1 { } }; repeat 1 { repeat 1 { } }" + " }" * 58
        self.assertEqual(fields_of(parse_block, text, 1), (TooLong, 60))

    def test_sixty_statements(self):
        self.assertEqual(parse_block("; ".join(["put 1"] * 60), 1), (("put", 1),) * 60)
        self.assertEqual(fields_of(parse_block, "; ".join(["put 1"] * 61), 1), (TooLong, 60))
        self.assertEqual(fields_of(parse_block, "; ".join(["put 1"] * 1000), 1), (TooLong, 60))
        self.assertEqual(fields_of(parse_block, "repeat 1 {" + "; ".join(["put 1"] * 60) + "}", 1), (TooLong, 60))

    def test_the_order_of_the_errors(self):
        far = "put 9999999999999; " + "put 1; " * 60
        self.assertEqual(fields_of(parse_block, far + "put", 1), (ParseError, len(far) + 3))
        self.assertEqual(fields_of(parse_block, far + "put 1", 1), (InvalidBlock, (0,)))
        self.assertEqual(fields_of(parse_block, "put 1; " * 60 + "put 9999999999999", 1), (InvalidBlock, (60,)))
        self.assertEqual(fields_of(parse_block, "put 9999999999999; put x", 1), (ParseError, 23))
        self.assertEqual(fields_of(parse_block, "put 1; " * 60 + "put 1", 1), (TooLong, 60))


class Calls(unittest.TestCase):
    def test_parameters_by_keyword(self):
        self.assertEqual(format_block(block=(("put", 1),)), "put 1")
        self.assertEqual(parse_block(text="put 1", dimension=1), (("put", 1),))

    def test_what_is_read_is_a_block(self):
        dice = Dice(2)
        for _ in range(100):
            text = format_block(random_block(dice, 3, 2))
            self.assertIsNone(check_block(parse_block(text, 3), 3))


if __name__ == "__main__":
    unittest.main()
