"""Blocks: the programs of walkers, as tuples of statements."""

from strewfar.errors import InvalidBlock, TooLong
from strewfar.places import is_number, is_place, opposite

MAX_STATEMENTS = 60
MAX_STEP = 10 ** 12
MAX_TIMES = 10 ** 30
MAX_LETTERS = 8


def is_name(text):
    """Return whether a value is a text of 1 to 8 lowercase letters."""
    # Letters of other alphabets are letters to Python, but not here.
    return isinstance(text, str) and len(text) <= MAX_LETTERS and text.isascii() and text.isalpha() and text.islower()


def is_block(block, dimension):
    """Return whether each statement is well formed, however many there are."""
    return _wrong_path(block, dimension) is None


def check_block(block, dimension):
    """Raise InvalidBlock with the path of the first wrong statement, then TooLong."""
    path = _wrong_path(block, dimension)
    if path is not None:
        raise InvalidBlock(path)
    if statements(block) > MAX_STATEMENTS:
        raise TooLong(MAX_STATEMENTS)


def _wrong_path(block, dimension):
    """Return the path of the first statement that is not well formed, or None."""
    for index, statement in enumerate(block):
        if not _is_statement(statement, dimension):
            return (index,)
        if statement[0] == "repeat":
            path = _wrong_path(statement[2], dimension)
            if path is not None:
                return (index, *path)
    return None


def _is_statement(thing, dimension):
    """Return whether a value is a statement; the block of a loop only has to be a tuple."""
    if not isinstance(thing, tuple):
        return False
    if len(thing) == 3:
        word, times, block = thing
        return word == "repeat" and _is_within(times, MAX_TIMES) and isinstance(block, tuple)
    return len(thing) == 2 and _is_simple(thing[0], thing[1], dimension)


def _is_simple(word, given, dimension):
    """Return whether a word and what follows it are a statement without a block."""
    if word == "go":
        return is_place(given, dimension) and all([_is_within(item, MAX_STEP) for item in given])
    if word == "put":
        return _is_within(given, MAX_STEP)
    return word in ("do", "undo") and is_name(given)


def _is_within(thing, bound):
    """Return whether a value is an integer from -bound to bound."""
    return is_number(thing) and -bound <= thing <= bound


def reverse(block):
    """Return the block that takes back what a block does."""
    return tuple([_reverse_of(statement) for statement in reversed(block)])


def _reverse_of(statement):
    """Return the reverse of a statement."""
    word = statement[0]
    if word == "go":
        return ("go", opposite(statement[1]))
    if word == "put":
        return ("put", -statement[1])
    if word == "do":
        return ("undo", statement[1])
    if word == "undo":
        return ("do", statement[1])
    return ("repeat", statement[1], reverse(statement[2]))


def statements(block):
    """Return the number of statements, those of nested blocks included."""
    nested = [statements(statement[2]) for statement in block if statement[0] == "repeat"]
    return len(block) + sum(nested)


def depth(block):
    """Return the greatest number of loops within one another, not counting those of parts."""
    nested = [depth(statement[2]) + 1 for statement in block if statement[0] == "repeat"]
    return max(nested, default=0)


def names_in(block):
    """Return the names of the parts that a block names, in the order of their first occurrence."""
    found = {}
    for statement in block:
        for name in _names_of(statement):
            found[name] = True
    return list(found)


def _names_of(statement):
    """Return the names in a statement, those in the block of a loop included."""
    if statement[0] in ("do", "undo"):
        return [statement[1]]
    if statement[0] == "repeat":
        return names_in(statement[2])
    return []


def renamed(block, old, new):
    """Return the block with one name in place of another."""
    return tuple([_renamed_in(statement, old, new) for statement in block])


def _renamed_in(statement, old, new):
    """Return a statement with one name in place of another."""
    if statement[0] == "repeat":
        return ("repeat", statement[1], renamed(statement[2], old, new))
    if statement[0] in ("do", "undo") and statement[1] == old:
        return (statement[0], new)
    return statement
