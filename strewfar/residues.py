"""Residues: what lies at all places with the same remainders, and walks that start elsewhere."""

from strewfar.compare import check_sizes, first_count, same
from strewfar.errors import InvalidCount, TooLong, WrongDimension
from strewfar.places import add, residue

MAX_CLASSES = 40


def residue_sums(effect, moduli):
    """Return the sums of counts that are not zero, with their residues, in ascending order.

    Raise WrongDimension, InvalidCount, TooLong.
    """
    if len(moduli) != effect.dimension:
        raise WrongDimension(len(moduli))
    _check_moduli(moduli)
    totals = {}
    for term in effect.terms():
        sums = _sums_of(term, moduli)
        for there in sums:
            totals[there] = totals.get(there, 0) + sums[there]
    return [(there, totals[there]) for there in sorted(totals) if totals[there] != 0]


def offset(one, other):
    """Return how far from other one starts, or None if they do not leave the same.

    Raise WrongDimension, TooLong, TooMany, Overload.
    """
    for effect in (one, other):
        if effect.dimension != 1:
            raise WrongDimension(effect.dimension)
    if one.shift != other.shift:
        return None
    size = abs(one.shift[0])
    if size > MAX_CLASSES:
        raise TooLong(MAX_CLASSES)
    return _distance(one, other) if size == 0 else _turn(one, other, size)


def _check_moduli(moduli):
    """Raise InvalidCount or TooLong."""
    classes = 1
    for modulus in moduli:
        if modulus < 1:
            raise InvalidCount(modulus)
        classes = classes * modulus
    if classes > MAX_CLASSES:
        raise TooLong(MAX_CLASSES)


def _sums_of(term, moduli):
    """Return the sums of the counts of a term by their residues."""
    number, place, loops = term
    sums = {residue(place, moduli): number}
    for stride, times in loops:
        sums = _looped(sums, stride, times, moduli)
    return sums


def _looped(sums, stride, times, moduli):
    """Return sums by residues after so many rounds, each a stride further than the one before."""
    looped = {}
    for place in sums:
        if place not in looped:
            ring = _ring(place, stride, moduli)
            counts = [sums.get(there, 0) for there in ring]
            for there, count in zip(ring, _turned(counts, times)):
                looped[there] = count
    return looped


def _ring(place, stride, moduli):
    """Return the residues that a walk by a stride comes to, from a residue until it is there again."""
    ring = [place]
    there = residue(add(place, stride), moduli)
    while there != place:
        ring.append(there)
        there = residue(add(there, stride), moduli)
    return ring


def _turned(counts, times):
    """Return the sums of the counts of a ring turned 0 times, once, twice, up to times - 1."""
    size = len(counts)
    rounds, rest = divmod(times, size)
    whole = rounds * sum(counts)
    twice = counts + counts
    return [whole + sum(twice[end - rest:end]) for end in range(size + 1, 2 * size + 1)]


def _turn(one, other, size):
    """Return the least number by which the residues of other are turned against those of one, or None."""
    ours, theirs = _ring_sums(one, size), _ring_sums(other, size)
    for turn in range(size):
        if ours[turn:] + ours[:turn] == theirs:
            return turn
    return None


def _ring_sums(effect, size):
    """Return the list of the sums of counts by their residues in one dimension."""
    sums = {there[0]: total for there, total in residue_sums(effect, (size,))}
    return [sums.get(there, 0) for there in range(size)]


def _distance(one, other):
    """Return how far the heap of other is moved to be that of one, or None; raise TooMany, Overload."""
    check_sizes(one, other)
    first, given = first_count(one), first_count(other)
    if first is None or given is None:
        return 0 if first == given else None
    distance = first[0][0] - given[0][0]
    return distance if same(one.moved((-distance,)), other) else None
