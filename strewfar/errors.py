"""The errors of the program.

No message shows the value that was refused: it may have more digits than Python is willing to write.
"""


class StrewError(ValueError):
    """A value breaks a rule."""

    def __init__(self, message):
        ValueError.__init__(self, message)
        self.tag = self.__class__.__name__


class NotFound(LookupError):
    """Something that was asked for is not there."""

    def __init__(self, message):
        LookupError.__init__(self, message)
        self.tag = self.__class__.__name__


class NothingLeft(IndexError):
    """No step is left to undo or to redo."""

    def __init__(self, message="no step is left"):
        IndexError.__init__(self, message)
        self.tag = self.__class__.__name__


class InvalidPlace(StrewError):
    """A place is not a place of the ground's dimension."""

    def __init__(self, place):
        StrewError.__init__(self, "not a place of this dimension")
        self.place = place


class InvalidBlock(StrewError):
    """The statement at a path has none of the forms of a statement."""

    def __init__(self, path):
        StrewError.__init__(self, "not a statement")
        self.path = path


class InvalidName(StrewError):
    """A text is not a name."""

    def __init__(self, name):
        StrewError.__init__(self, "not a name")
        self.name = name


class DuplicateName(StrewError):
    """A name is taken already."""

    def __init__(self, name):
        StrewError.__init__(self, "this name is taken")
        self.name = name


class CapacityExceeded(StrewError):
    """There would be more of something than there is room for."""

    def __init__(self, capacity):
        StrewError.__init__(self, "no room for more")
        self.capacity = capacity


class Circular(StrewError):
    """A part uses itself."""

    def __init__(self, name):
        StrewError.__init__(self, "this part uses itself")
        self.name = name


class InUse(StrewError):
    """A part is named in the block of another part."""

    def __init__(self, name):
        StrewError.__init__(self, "another part uses this part")
        self.name = name


class TooLong(StrewError):
    """Something has more members than the limit."""

    def __init__(self, limit):
        StrewError.__init__(self, "longer than the limit")
        self.limit = limit


class TooDeep(StrewError):
    """There are more loops within one another than the limit."""

    def __init__(self, limit):
        StrewError.__init__(self, "deeper than the limit")
        self.limit = limit


class TooMany(StrewError):
    """There are more puts or terms than the limit."""

    def __init__(self, limit):
        StrewError.__init__(self, "more than the limit")
        self.limit = limit


class Overload(StrewError):
    """A load, or a number of relations, is too great."""

    def __init__(self, load):
        StrewError.__init__(self, "the load is too great")
        self.load = load


class Tangled(StrewError):
    """The strides of the term or strewing at an index are tangled."""

    def __init__(self, index):
        StrewError.__init__(self, "the strides are tangled")
        self.index = index


class InvalidBeat(StrewError):
    """A beat is out of range."""

    def __init__(self, beat):
        StrewError.__init__(self, "the beat is out of range")
        self.beat = beat


class InvalidCount(StrewError):
    """A modulus or a limit is out of range."""

    def __init__(self, number):
        StrewError.__init__(self, "the number is out of range")
        self.number = number


class WrongDimension(StrewError):
    """A number of dimensions is not one that is possible here."""

    def __init__(self, given):
        StrewError.__init__(self, "this dimension is not possible here")
        self.given = given


class ParseError(StrewError):
    """A text is wrong at a position."""

    def __init__(self, position):
        StrewError.__init__(self, "the text is wrong at this position")
        self.position = position


class InvalidCommand(StrewError):
    """A tuple is not a command."""

    def __init__(self, first):
        StrewError.__init__(self, "not a command")
        self.first = first


class UnknownName(NotFound):
    """No part has this name."""

    def __init__(self, name):
        NotFound.__init__(self, "no part has this name")
        self.name = name


class UnknownWalker(NotFound):
    """No walker has this index."""

    def __init__(self, index):
        NotFound.__init__(self, "no walker has this index")
        self.index = index
