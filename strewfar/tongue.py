"""The texts of blocks: writing and reading them."""

from strewfar.blocks import check_block, is_name
from strewfar.errors import ParseError

MAX_DIGITS = 31
MAX_BRACES = 60
WORDS = ("go", "put", "do", "undo", "repeat")


def format_block(block):
    """Return the text of a block."""
    return "; ".join([_format_statement(statement) for statement in block])


def _format_statement(statement):
    """Return the text of a statement."""
    word = statement[0]
    if word == "repeat":
        return _format_repeat(statement[1], statement[2])
    if word == "go":
        return " ".join(["go"] + [str(item) for item in statement[1]])
    return f"{word} {statement[1]}"


def _format_repeat(times, block):
    """Return the text of a loop."""
    words = ["repeat", str(times), "{"]
    # Without this test, an empty block would leave two spaces between its braces.
    if len(block) > 0:
        words.append(format_block(block))
    words.append("}")
    return " ".join(words)


def parse_block(text, dimension):
    """Return the block that a text stands for; raise ParseError, then the errors of check_block."""
    block = Reader(text, dimension).take_block("")
    check_block(block, dimension)
    return block


def split_tokens(text):
    """Return the tokens of a text with their positions, and an empty one for the end of the text."""
    tokens = []
    start = 0
    # The space behind the text ends its last run.
    for position, sign in enumerate(text + " "):
        if sign not in " ;{}":
            continue
        if start < position:
            tokens.append((text[start:position], start))
        if sign != " ":
            tokens.append((sign, position))
        start = position + 1
    tokens.append(("", len(text)))
    return tokens


def is_number_token(token):
    """Return whether a token is a number in the one form in which it is written."""
    digits = token.removeprefix("-")
    if len(digits) > MAX_DIGITS or not digits.isascii() or not digits.isdecimal():
        return False
    return digits[0] != "0" or token == "0"


class Reader:
    """The tokens of a text, read one after the other."""

    def __init__(self, text, dimension):
        self._tokens = split_tokens(text)
        self._dimension = dimension
        self._at = 0
        self._braces = 0

    def peek(self):
        """Return the next token without reading it."""
        return self._tokens[self._at][0]

    def take(self, fits):
        """Return the next token if it fits here; raise ParseError with its position if not."""
        token, position = self._tokens[self._at]
        if not fits(token):
            raise ParseError(position)
        self._at += 1
        return token

    def take_sign(self, sign):
        """Read the next token, which must be this very one."""
        self.take(lambda token: token == sign)

    def take_block(self, closing):
        """Return the block up to a closing token, which is read, too."""
        block = []
        if self.peek() != closing:
            block.append(self.take_statement())
            while self.peek() == ";":
                self.take_sign(";")
                block.append(self.take_statement())
        self.take_sign(closing)
        return tuple(block)

    def take_statement(self):
        """Return the next statement."""
        word = self.take(lambda token: token in WORDS)
        if word == "go":
            return ("go", tuple([self.take_number() for _ in range(self._dimension)]))
        if word == "put":
            return ("put", self.take_number())
        if word == "repeat":
            times = self.take_number()
            return ("repeat", times, self.take_nested())
        return (word, self.take(is_name))

    def take_number(self):
        """Return the number that the next token stands for."""
        return int(self.take(is_number_token))

    def take_nested(self):
        """Return the block between the next brace and the one that closes it."""
        self.take(lambda token: token == "{" and self._braces < MAX_BRACES)
        self._braces += 1
        block = self.take_block("}")
        self._braces -= 1
        return block
