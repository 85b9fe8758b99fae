"""Parts: the dimension of a ground, and blocks by name."""

from strewfar.blocks import check_block, is_name, names_in
from strewfar.errors import CapacityExceeded, Circular, InvalidName, TooDeep, TooMany, UnknownName, WrongDimension
from strewfar.places import MAX_DIMENSION, is_number

MAX_PARTS = 12
MAX_DEPTH = 6
MAX_PUTS = 60


class Parts:
    """A dimension and up to 12 blocks by name, none of which uses itself. Parts never change."""

    def __init__(self, dimension, blocks):
        if not is_number(dimension) or not 1 <= dimension <= MAX_DIMENSION:
            raise WrongDimension(dimension)
        if len(blocks) > MAX_PARTS:
            raise CapacityExceeded(MAX_PARTS)
        self._dimension = dimension
        self._blocks = {name: blocks[name] for name in sorted(blocks)}
        self._depths = {}
        self._puts = {}
        self._check_blocks()
        self._measure()
        for block in self._blocks.values():
            self._check_sizes(block)

    @classmethod
    def empty(cls, dimension):
        """Return parts without blocks."""
        return cls(dimension, {})

    @property
    def dimension(self):
        """The number of dimensions of the ground."""
        return self._dimension

    def names(self):
        """Return the names in ascending order."""
        return list(self._blocks)

    def block(self, name):
        """Return the block with a name; raise UnknownName."""
        self._check_known(name)
        return self._blocks[name]

    def users(self, name):
        """Return the names of the parts whose blocks name a part, in ascending order; raise UnknownName."""
        self._check_known(name)
        return [user for user, block in self._blocks.items() if name in names_in(block)]

    def blocks(self):
        """Return a dict of the blocks by name."""
        return dict(self._blocks)

    def check(self, block):
        """Raise InvalidBlock, TooLong, UnknownName, TooDeep or TooMany if a block cannot be run with these parts."""
        self._check_form(block)
        self._check_sizes(block)

    def depth(self, block):
        """Return the greatest number of loops within one another, those of parts included."""
        self._check_form(block)
        return _depth_of(block, self._depths)

    def puts(self, block):
        """Return the number of puts, those of parts included; a loop counts once."""
        self._check_form(block)
        return _puts_of(block, self._puts)

    def _check_known(self, name):
        """Raise UnknownName if no part has a name."""
        if name not in self._blocks:
            raise UnknownName(name)

    def _check_names(self, block):
        """Raise UnknownName with the first name in a block that no part has."""
        for name in names_in(block):
            self._check_known(name)

    def _check_form(self, block):
        """Raise InvalidBlock, TooLong or UnknownName."""
        check_block(block, self._dimension)
        self._check_names(block)

    def _check_sizes(self, block):
        """Raise TooDeep or TooMany."""
        if _depth_of(block, self._depths) > MAX_DEPTH:
            raise TooDeep(MAX_DEPTH)
        if _puts_of(block, self._puts) > MAX_PUTS:
            raise TooMany(MAX_PUTS)

    def _check_blocks(self):
        """Raise the errors of names and blocks that need no measures, except Circular."""
        for name, block in self._blocks.items():
            if not is_name(name):
                raise InvalidName(name)
            check_block(block, self._dimension)
        for block in self._blocks.values():
            self._check_names(block)

    def _measure(self):
        """Note the depth and the puts of each part; raise Circular."""
        used = {name: used_by(name, self._blocks) for name in self._blocks}
        for name in self._blocks:
            if name in used[name]:
                raise Circular(name)
        # A part uses more parts than each of those that it uses, so these are measured before it.
        for name in sorted(self._blocks, key=lambda user: len(used[user])):
            self._depths[name] = _depth_of(self._blocks[name], self._depths)
            self._puts[name] = _puts_of(self._blocks[name], self._puts)


def used_by(name, blocks):
    """Return the names of the parts that a part uses, each once."""
    used = []
    waiting = names_in(blocks[name])
    while len(waiting) > 0:
        other = waiting.pop()
        if other not in used:
            used.append(other)
            waiting.extend(names_in(blocks[other]))
    return used


def _depth_of(block, depths):
    """Return the depth of a block, with the depths of parts by name."""
    return max([_levels_of(statement, depths) for statement in block], default=0)


def _levels_of(statement, depths):
    """Return the number of loops within one another in a statement, itself included."""
    if statement[0] == "repeat":
        return _depth_of(statement[2], depths) + 1
    if statement[0] in ("do", "undo"):
        return depths[statement[1]]
    return 0


def _puts_of(block, puts):
    """Return the puts of a block, with the puts of parts by name."""
    return sum([_puts_in(statement, puts) for statement in block])


def _puts_in(statement, puts):
    """Return the puts of a statement."""
    if statement[0] == "repeat":
        return _puts_of(statement[2], puts)
    if statement[0] in ("do", "undo"):
        return puts[statement[1]]
    return int(statement[0] == "put")
