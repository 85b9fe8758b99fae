"""Books: named parts that can be changed, with undo and redo."""

from strewfar.blocks import is_name, renamed
from strewfar.errors import (CapacityExceeded, Circular, DuplicateName, InUse, InvalidCommand, InvalidName,
                             NothingLeft, UnknownName)
from strewfar.parts import MAX_PARTS, Parts
from strewfar.trails import trail_of

# How many elements a command has, its first one included.
SIZES = {"define": 3, "redefine": 3, "rename": 3, "drop": 2}


class Book:
    """Parts, the parts before each step that can be undone, and those behind each step that can be redone."""

    def __init__(self, dimension):
        self._parts = Parts.empty(dimension)
        self._earlier = []
        self._later = []

    @classmethod
    def of(cls, parts):
        """Return a book with parts and without a history."""
        book = cls(parts.dimension)
        book._parts = parts
        return book

    @property
    def parts(self):
        """The parts as they are now."""
        return self._parts

    def __len__(self):
        return len(self._parts.names())

    def __repr__(self):
        return f"Book({len(self._parts.names())} parts)"

    def __eq__(self, other):
        if not isinstance(other, Book):
            return False
        return self._parts.dimension == other._parts.dimension and self._parts.blocks() == other._parts.blocks()

    def define(self, name, block):
        """Add a part; raise InvalidName, DuplicateName, CapacityExceeded, the errors of Parts.check."""
        self.apply(("define", name, block))

    def redefine(self, name, block):
        """Give a part another block.

        Raise UnknownName for the part, then InvalidBlock, TooLong, UnknownName, Circular, TooDeep, TooMany.
        """
        self.apply(("redefine", name, block))

    def rename(self, name, new):
        """Give a part another name; raise UnknownName, InvalidName, DuplicateName."""
        self.apply(("rename", name, new))

    def drop(self, name):
        """Remove a part; raise UnknownName, InUse."""
        self.apply(("drop", name))

    def apply(self, command):
        """Apply one command; raise InvalidCommand, the errors of the command."""
        self.apply_all([command])

    def apply_all(self, commands):
        """Apply commands as one step, all or none; raise InvalidCommand, the errors of the commands."""
        for command in commands:
            _check_command(command)
        parts = self._parts
        for command in commands:
            parts = _changed(parts, command)
        self._earlier.append(self._parts)
        self._later = []
        self._parts = parts

    def undo(self):
        """Take the last step back; raise NothingLeft."""
        if len(self._earlier) == 0:
            raise NothingLeft("no step is left to undo")
        self._later.append(self._parts)
        self._parts = self._earlier.pop()

    def redo(self):
        """Make the step again that was taken back last; raise NothingLeft."""
        if len(self._later) == 0:
            raise NothingLeft("no step is left to redo")
        self._earlier.append(self._parts)
        self._parts = self._later.pop()

    def history(self):
        """Return the pair of the numbers of steps that can be undone and redone."""
        return (len(self._earlier), len(self._later))

    def trail(self, name):
        """Return the trail of a part; raise UnknownName."""
        return trail_of(self._parts, self._parts.block(name))

    def effect(self, name):
        """Return the effect of a part; raise UnknownName."""
        return self.trail(name).effect()

    def clone(self):
        """Return a book with the same parts and history, which is independent of this one."""
        book = Book.of(self._parts)
        book._earlier = list(self._earlier)
        book._later = list(self._later)
        return book


def _check_command(command):
    """Raise InvalidCommand if a tuple is not a command."""
    first = command[0] if len(command) > 0 else None
    if first not in SIZES or len(command) != SIZES[first]:
        raise InvalidCommand(first)


def _changed(parts, command):
    """Return the parts behind a command; raise its errors."""
    word, name = command[0], command[1]
    if word == "define":
        return _defined(parts, name, command[2])
    if word == "redefine":
        return _redefined(parts, name, command[2])
    if word == "rename":
        return _renamed(parts, name, command[2])
    return _dropped(parts, name)


def _defined(parts, name, block):
    """Return parts with one more."""
    _check_new_name(parts, name)
    if len(parts.names()) >= MAX_PARTS:
        raise CapacityExceeded(MAX_PARTS)
    # Without this, a block that names its own part would be circular: its name is not known yet.
    parts.check(block)
    return _with_block(parts, name, block)


def _redefined(parts, name, block):
    """Return parts with another block for a name."""
    _check_known(parts, name)
    try:
        return _with_block(parts, name, block)
    except Circular:
        # All parts of the circle use themselves now, but only this one was changed.
        raise Circular(name) from None


def _renamed(parts, name, new):
    """Return parts with another name for one of them, in all blocks too."""
    _check_known(parts, name)
    _check_new_name(parts, new)
    blocks = {}
    for other, block in parts.blocks().items():
        blocks[new if other == name else other] = renamed(block, name, new)
    return Parts(parts.dimension, blocks)


def _dropped(parts, name):
    """Return parts without one of them."""
    users = parts.users(name)
    if len(users) > 0:
        raise InUse(users[0])
    blocks = parts.blocks()
    del blocks[name]
    return Parts(parts.dimension, blocks)


def _check_known(parts, name):
    """Raise UnknownName if no part has a name."""
    if name not in parts.names():
        raise UnknownName(name)


def _check_new_name(parts, name):
    """Raise InvalidName or DuplicateName if no part can get a name."""
    if not is_name(name):
        raise InvalidName(name)
    if name in parts.names():
        raise DuplicateName(name)


def _with_block(parts, name, block):
    """Return parts in which a name has a block."""
    blocks = parts.blocks()
    blocks[name] = block
    return Parts(parts.dimension, blocks)
