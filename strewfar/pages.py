"""The texts of books: writing and reading them."""

from strewfar.blocks import is_name, names_in
from strewfar.books import Book
from strewfar.errors import Circular, InvalidBlock, ParseError, TooDeep, TooLong, TooMany
from strewfar.parts import MAX_PARTS, Parts, used_by
from strewfar.places import MAX_DIMENSION
from strewfar.tongue import format_block, parse_block


def format_book(book):
    """Return the text of a book."""
    parts = book.parts
    rows = [_format_ground(parts.dimension)]
    for name in parts.names():
        rows.append(_format_part(name, parts.block(name)))
    return "".join([f"{row}\n" for row in rows])


def parse_book(text):
    """Return the book that a text stands for, without a history; raise ParseError."""
    *rows, rest = text.split("\n")
    dimension = _parse_ground(rows[0]) if len(rows) > 0 else 0
    blocks = {}
    before = ""
    for index, row in enumerate(rows):
        if index > 0:
            name, block = _parse_part(index, row, dimension, before)
            blocks[name] = block
            before = name
    if rest != "" or len(rows) == 0:
        raise ParseError(len(rows))
    faulty = _faulty_part(dimension, blocks)
    if faulty is not None:
        raise ParseError(list(blocks).index(faulty) + 1)
    return Book.of(Parts(dimension, blocks))


def _format_ground(dimension):
    """Return the row of the ground."""
    return f"ground {dimension}"


def _format_part(name, block):
    """Return the row of a part."""
    # An empty block has no space behind the colon.
    return f"part {name}: {format_block(block)}" if len(block) > 0 else f"part {name}:"


def _parse_ground(row):
    """Return the dimension that the first row tells; raise ParseError."""
    for dimension in range(1, MAX_DIMENSION + 1):
        if row == _format_ground(dimension):
            return dimension
    raise ParseError(0)


def _parse_part(index, row, dimension, before):
    """Return the name and the block of the part in the row at an index, behind a name; raise ParseError."""
    head, _, text = row.partition(":")
    name = head.removeprefix("part ")
    if index > MAX_PARTS or not is_name(name) or name <= before:
        raise ParseError(index)
    try:
        block = parse_block(text, dimension)
    except (ParseError, InvalidBlock, TooLong):
        raise ParseError(index) from None
    # The same block may be written with other spaces, which a page may not have.
    if row != _format_part(name, block):
        raise ParseError(index)
    return (name, block)


def _faulty_part(dimension, blocks):
    """Return the name of the part for which Parts raises an error, or None if it raises none."""
    for name in sorted(blocks):
        if not all([other in blocks for other in names_in(blocks[name])]):
            return name
    try:
        Parts(dimension, blocks)
    except Circular as error:
        return error.name
    except (TooDeep, TooMany):
        return _oversized_part(dimension, blocks)
    return None


def _oversized_part(dimension, blocks):
    """Return the name of the first part that is too deep or has too many puts, or None if there is none."""
    for name in sorted(blocks):
        # A part has at least the loops and puts of each part that it uses. So if one of these is too great, it is, too.
        own = {other: blocks[other] for other in [name, *used_by(name, blocks)]}
        try:
            Parts(dimension, own)
        except (TooDeep, TooMany):
            return name
    return None
