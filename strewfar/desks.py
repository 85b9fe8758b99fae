"""Desks: they answer lines about a book."""

from strewfar.books import Book
from strewfar.compare import difference, same
from strewfar.errors import NotFound, NothingLeft, StrewError
from strewfar.tongue import format_block, is_number_token, parse_block

WHAT = "what"
# How many words a line has, its first one included, those of a place left out.
SIZES = {"rename": 3, "drop": 2, "undo": 1, "redo": 1, "names": 1, "show": 2, "beats": 2, "total": 2, "end": 2,
         "amount": 2, "visits": 2, "same": 3, "differ": 3}


class Desk:
    """A book, and the answers to lines about it."""

    def __init__(self, *, book=None, dimension=2):
        self._book = Book(dimension) if book is None else book

    def book(self):
        """Return the book itself."""
        return self._book

    def ask(self, line):
        """Apply a line and return its answer."""
        words = line.split(" ")
        if words[0] in ("define", "redefine"):
            return self.changed(line.split(" ", 2))
        if not _is_question(words, self._book.parts.dimension):
            return WHAT
        action = ACTIONS[words[0]]
        try:
            return action(self._book, words)
        except (StrewError, NotFound, NothingLeft) as error:
            return f"error {error.tag}"

    def changed(self, words):
        """Define or redefine a part and return the answer; the third word is the text of its block."""
        if len(words) < 3 or words[1] == "":
            return WHAT
        word, name, text = words
        try:
            self._book.apply((word, name, parse_block(text, self._book.parts.dimension)))
        except (StrewError, NotFound) as error:
            return f"error {error.tag}"
        return "ok"


def _is_question(words, dimension):
    """Return whether words are a line that has an answer, other than define and redefine."""
    if words[0] not in SIZES or "" in words:
        return False
    size = SIZES[words[0]]
    if words[0] not in ("amount", "visits"):
        return len(words) == size
    return len(words) == size + dimension and all([is_number_token(word) for word in words[size:]])


def _apply(book, words):
    """Apply a command that has no text."""
    book.apply(tuple(words))
    return "ok"


def _undo(book, _):
    """Undo a step."""
    book.undo()
    return "ok"


def _redo(book, _):
    """Redo a step."""
    book.redo()
    return "ok"


def _names(book, _):
    """Return the names of the parts."""
    names = book.parts.names()
    return " ".join(names) if len(names) > 0 else "none"


def _show(book, words):
    """Return the text of a part."""
    return format_block(book.parts.block(words[1]))


def _beats(book, words):
    """Return the number of beats of a part."""
    return str(book.trail(words[1]).beats)


def _total(book, words):
    """Return the sum of all counts that a part leaves."""
    return str(book.effect(words[1]).total)


def _end(book, words):
    """Return the shift of a part."""
    return _spaced(book.trail(words[1]).shift)


def _amount(book, words):
    """Return the count that a part leaves at a place."""
    return str(book.effect(words[1]).amount(_place_of(words)))


def _visits(book, words):
    """Return how often a part puts at a place, with the first and the last beat."""
    visits = book.trail(words[1]).visits(_place_of(words))
    return _spaced(visits) if visits[0] > 0 else "never"


def _same(book, words):
    """Return whether two parts do the same."""
    return "yes" if same(book.effect(words[1]), book.effect(words[2])) else "no"


def _differ(book, words):
    """Return the first place where two parts leave other counts, and by how much."""
    found = difference(book.effect(words[1]), book.effect(words[2]))
    if found is None:
        return "nowhere"
    place, amount = found[0]
    return _spaced((*place, amount))


def _place_of(words):
    """Return the place behind the first two words."""
    return tuple([int(word) for word in words[2:]])


def _spaced(numbers):
    """Return numbers with a space between them."""
    return " ".join([str(number) for number in numbers])


ACTIONS = {"rename": _apply, "drop": _apply, "undo": _undo, "redo": _redo, "names": _names, "show": _show,
           "beats": _beats, "total": _total, "end": _end, "amount": _amount, "visits": _visits, "same": _same,
           "differ": _differ}
