"""Comparing effects without laying out what they leave.

Each term stands for marks in rows. Written as a polynomial whose exponents are places, a row of so many marks is
(1 - x ** (times * stride)) / (1 - x ** stride). If all terms are multiplied by the same factors 1 - x ** stride, as
many for each stride as a term has loops with it at most, only few marks are left. Strides are forward, so that each
factor has 1 at its first place and -1 at its last one. So the first mark of the product is that of the heap, and its
last mark is that of the heap, moved by all strides. This holds modulo any number, too, and the product is empty exactly
if the heaps are the same.
"""

from strewfar.effects import Effect, raised
from strewfar.errors import InvalidCount, Overload, TooDeep, TooMany
from strewfar.parts import MAX_DEPTH
from strewfar.places import add, opposite, origin, scale

MAX_MODULUS = 10 ** 6
MAX_TERMS = 500
MAX_LOAD = 8


def difference(one, other, *, modulo=0):
    """Return the first and the last place where two heaps differ, each with the amount, or None if none does.

    Raise InvalidCount, TooMany, Overload.
    """
    if modulo != 0 and not 2 <= modulo <= MAX_MODULUS:
        raise InvalidCount(modulo)
    check_sizes(one, other)
    terms = one.terms() + [(-number, place, loops) for number, place, loops in other.terms()]
    factors = _factors_of(terms)
    counts = _product_of(terms, factors, one.dimension)
    if modulo != 0:
        counts = {place: counts[place] % modulo for place in counts}
    places = [place for place in counts if counts[place] != 0]
    if len(places) == 0:
        return None
    first, last = min(places), max(places)
    return ((first, counts[first]), _without_factors(last, counts[last], factors, modulo))


def same(one, other):
    """Return whether two effects have the same shift and the same heap; raise TooMany, Overload."""
    found = difference(one, other)
    return one.shift == other.shift and found is None


def commute(one, other):
    """Return whether it does not matter which of two effects comes first; raise TooMany, Overload."""
    return same(one * other, other * one)


def exponent(one, other):
    """Return the number nearest to 0 of the power of one that is the same as other, or None if there is none.

    Raise TooMany, Overload, TooDeep.
    """
    if one.shift == origin(one.dimension):
        return _exponent_of_still(one, other) if other.shift == one.shift else None
    times = _ratio(other.shift, one.shift)
    if times is None:
        return None
    power = raised(one, times)
    check_sizes(power, other)
    if any([len(term[2]) > MAX_DEPTH for term in power.terms()]):
        raise TooDeep(MAX_DEPTH)
    return times if same(power, other) else None


def check_sizes(one, other):
    """Raise TooMany or Overload if two effects cannot be compared."""
    terms = one.terms() + other.terms()
    if len(terms) > MAX_TERMS:
        raise TooMany(MAX_TERMS)
    load = len(_factors_of(terms))
    if load > MAX_LOAD:
        raise Overload(load)


def first_count(effect):
    """Return the first place of a heap with its count, or None if the heap is empty; raise TooMany, Overload."""
    found = difference(effect, Effect.still(effect.dimension))
    return None if found is None else found[0]


def _exponent_of_still(one, other):
    """Return the exponent for two effects that do not move."""
    check_sizes(one, other)
    first, given = first_count(one), first_count(other)
    if given is None:
        return 0
    if first is None or first[0] != given[0] or given[1] % first[1] != 0:
        return None
    times = given[1] // first[1]
    return times if same(one.power(times), other) else None


def _ratio(vector, unit):
    """Return the integer by which a unit, which is not the origin, is multiplied to give a vector, or None."""
    item, part = [pair for pair in zip(vector, unit) if pair[1] != 0][0]
    times = item // part
    return times if scale(times, unit) == vector else None


def _factors_of(terms):
    """Return the strides of loops, each as often as a term has loops with it at most. Their number is the load."""
    most = {}
    for _, _, loops in terms:
        strides = [stride for stride, _ in loops]
        for stride in strides:
            most[stride] = max(most.get(stride, 0), strides.count(stride))
    factors = []
    for stride, many in most.items():
        factors.extend([stride] * many)
    return factors


def _product_of(terms, factors, dimension):
    """Return the counts by place that are left of terms if they are multiplied by the factors."""
    patterns = {}
    counts = {}
    for number, place, loops in terms:
        # Many terms have the same loops, as those of the puts within one loop.
        if loops not in patterns:
            patterns[loops] = _pattern_of(loops, factors, dimension)
        for vector, many in patterns[loops]:
            there = add(place, vector)
            counts[there] = counts.get(there, 0) + many * number
    return counts


def _pattern_of(loops, factors, dimension):
    """Return what is left of a mark at the origin in loops: pairs of a place and a count."""
    left = list(factors)
    steps = []
    for stride, times in loops:
        left.remove(stride)
        steps.append(scale(times, stride))
    pattern = {origin(dimension): 1}
    for step in steps + left:
        grown = {place: pattern[place] for place in pattern}
        for place in pattern:
            there = add(place, step)
            grown[there] = grown.get(there, 0) - pattern[place]
        pattern = grown
    return [(place, count) for place, count in pattern.items() if count != 0]


def _without_factors(place, count, factors, modulo):
    """Return the last place and amount of a heap, given those of its product with the factors."""
    there = place
    amount = count
    for stride in factors:
        there = add(there, opposite(stride))
        amount = -amount
    return (there, amount if modulo == 0 else amount % modulo)
