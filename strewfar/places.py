"""Places and vectors: tuples with an integer for each dimension of the ground."""

MAX_DIMENSION = 3


def is_number(thing):
    """Return whether a value is an integer; True and False are not."""
    return isinstance(thing, int) and not isinstance(thing, bool)


def is_place(thing, dimension):
    """Return whether a value is a tuple of as many integers as the dimension."""
    return isinstance(thing, tuple) and len(thing) == dimension and all([is_number(item) for item in thing])


def origin(dimension):
    """Return the place that has zeros only."""
    return (0,) * dimension


def add(one, *others):
    """Return the sum of one or more places."""
    total = one
    for other in others:
        total = tuple([left + right for left, right in zip(total, other)])
    return total


def scale(number, place):
    """Return the multiple of a place."""
    return tuple([number * item for item in place])


def opposite(place):
    """Return the multiple -1 of a place."""
    return scale(-1, place)


def is_forward(vector):
    """Return whether the first element that is not zero is positive; the origin is not forward."""
    for item in vector:
        if item != 0:
            return item > 0
    return False


def residue(place, moduli):
    """Return the tuple of the residues of a place, one for each of the positive moduli."""
    return tuple([item % modulus for item, modulus in zip(place, moduli)])
