"""Integer relations of vectors, and the numbers of rounds that lead from the origin to a target.

A row is a tuple: a vector, followed by the coefficients with which the given vectors add up to it.
"""

from strewfar.errors import Overload, Tangled
from strewfar.places import add, is_forward, opposite, origin, scale


def relations(vectors):
    """Return the number of independent integer relations of a list of vectors."""
    return len(_stairs(vectors)[1])


def solutions(vectors, times, target):
    """Return how many tuples of rounds lead to a target, with the least and the greatest; raise Overload."""
    steps, ties = _stairs(vectors)
    if len(ties) > 1:
        raise Overload(len(ties))
    start = _one_way(steps, len(vectors), target)
    if start is None:
        return (0, None, None)
    tie = ties[0] if len(ties) == 1 else origin(len(vectors))
    # All ways are the start plus multiples of the tie; they are in ascending order only if it is forward.
    if not is_forward(tie):
        tie = opposite(tie)
    low, high = _multiples_within(start, tie, times)
    if low > high:
        return (0, None, None)
    return (high - low + 1, add(start, scale(low, tie)), add(start, scale(high, tie)))


def untangled(index, strides, times, target):
    """Return the solutions for the loops of the term or strewing at an index; raise Tangled."""
    try:
        return solutions(strides, times, target)
    except Overload:
        raise Tangled(index) from None


def _stairs(vectors):
    """Return steps and ties, which have the same integer combinations as the vectors.

    A step is a pair of a column and a row that is 0 in all columns before. A tie is a relation of the vectors.
    """
    width = len(vectors[0]) if len(vectors) > 0 else 0
    rows = [vector + _unit(index, len(vectors)) for index, vector in enumerate(vectors)]
    steps = []
    for column in range(width):
        heads, rows = _swept(rows, column)
        steps.extend([(column, head) for head in heads])
    return steps, [row[width:] for row in rows]


def _unit(index, many):
    """Return a tuple of so many elements, 1 at an index and 0 elsewhere."""
    return (0,) * index + (1,) + (0,) * (many - index - 1)


def _swept(rows, column):
    """Return rows with the same integer combinations: at most one that is not 0 at a column, then the others."""
    heads = []
    rest = [row for row in rows if row[column] == 0]
    for row in rows:
        if row[column] == 0:
            continue
        if len(heads) == 0:
            heads.append(row)
        else:
            heads[0], swept = _divided(heads[0], row, column)
            rest.append(swept)
    return heads, rest


def _divided(one, other, column):
    """Return two rows with the same integer combinations, the second one 0 at a column."""
    while other[column] != 0:
        times = one[column] // other[column]
        one, other = other, add(one, scale(-times, other))
    return one, other


def _one_way(steps, many, target):
    """Return one tuple of integers with which so many vectors add up to a target, or None."""
    width = len(target)
    left = target + origin(many)
    for column, row in steps:
        left = add(left, scale(-(left[column] // row[column]), row))
    # What a step could not divide stays: all later rows are 0 in its column.
    if left[:width] != origin(width):
        return None
    return opposite(left[width:])


def _multiples_within(start, tie, times):
    """Return the least and the greatest multiple of a tie that keeps each round within its loop.

    The least is greater if there is none. Without a tie, the only multiple is 0.
    """
    lows = []
    highs = []
    for begin, move, many in zip(start, tie, times):
        if move == 0:
            if not 0 <= begin < many:
                return (1, 0)
            continue
        # A round that moves down moves up when it is counted from the other end of its loop.
        ahead = begin if move > 0 else many - 1 - begin
        lows.append(-(ahead // abs(move)))
        highs.append((many - 1 - ahead) // abs(move))
    return (max(lows, default=0), min(highs, default=0))
