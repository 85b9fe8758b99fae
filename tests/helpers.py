"""What several tests need."""

from strewfar import errors


def fields_of(call, *arguments, **named):
    """Return the class and the field of the error that a call raises, or None if it raises none."""
    try:
        call(*arguments, **named)
    except (errors.StrewError, errors.NotFound) as error:
        fields = [value for name, value in vars(error).items() if name != "tag"]
        assert error.tag == error.__class__.__name__
        return (error.__class__, *fields)
    return None


def within_loops(block, indexes):
    """Return a block that holds a block in loops, at the index given for each, the outermost first."""
    for index in reversed(indexes):
        block = (("put", 1),) * index + (("repeat", 2, block), ("do", "last"))
    return block


def nested(levels):
    """Return a block with so many loops within one another, the innermost empty."""
    block = ()
    for _ in range(levels):
        block = (("repeat", 1, block),)
    return block


class Dice:
    """Numbers that look random, the same in each run."""

    def __init__(self, seed):
        self.state = seed

    def roll(self, sides):
        self.state = (self.state * 6364136223846793005 + 1442695040888963407) % 2 ** 64
        return (self.state >> 33) % sides


def random_block(dice, dimension, levels):
    """Return a block with up to three statements, with loops up to so many levels."""
    return tuple(random_statement(dice, dimension, levels) for _ in range(dice.roll(4)))


def random_statement(dice, dimension, levels):
    kind = dice.roll(5 if levels > 0 else 4)
    number = (dice.roll(7) - 3) * 10 ** dice.roll(12)
    if kind == 0:
        return ("go", tuple((dice.roll(7) - 3) * 10 ** dice.roll(12) for _ in range(dimension)))
    if kind == 1:
        return ("put", number)
    if kind == 4:
        return ("repeat", number * 10 ** dice.roll(18), random_block(dice, dimension, levels - 1))
    return ("do" if kind == 2 else "undo", "abcdefgh"[dice.roll(8):])
