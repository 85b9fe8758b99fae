"""Effects: a shift, and the counts that a walker leaves behind."""

from strewfar.errors import InvalidPlace, TooDeep
from strewfar.lattices import untangled
from strewfar.parts import MAX_DEPTH
from strewfar.places import add, is_forward, is_place, opposite, origin, scale


class Effect:
    """A shift and a heap, which is the sum of terms. No effect changes."""

    def __init__(self, shift, terms):
        self._shift = shift
        self._terms = tuple(terms)

    @staticmethod
    def still(dimension):
        """Return the effect that does nothing."""
        return Effect(origin(dimension), [])

    @staticmethod
    def mark(place, number):
        """Return the effect that puts a number at a place and does not move."""
        terms = [(number, place, ())] if number != 0 else []
        return Effect(origin(len(place)), terms)

    @property
    def dimension(self):
        """The number of dimensions of the ground."""
        return len(self._shift)

    @property
    def shift(self):
        """The vector from the walker's place at the beginning to that at the end."""
        return self._shift

    @property
    def total(self):
        """The sum of all counts."""
        return sum([_total_of(term) for term in self._terms])

    def terms(self):
        """Return the list of terms: tuples of a number, a place and loops."""
        return list(self._terms)

    def __mul__(self, other):
        later = _all_moved(other._terms, self._shift)
        return Effect(add(self._shift, other._shift), [*self._terms, *later])

    def __neg__(self):
        back = opposite(self._shift)
        terms = [(-number, place, loops) for number, place, loops in _all_moved(self._terms, back)]
        return Effect(back, terms)

    def power(self, times):
        """Return the effect of running this one so many times, also a negative number; raise TooDeep."""
        power = raised(self, times)
        if any([len(term[2]) > MAX_DEPTH for term in power.terms()]):
            raise TooDeep(MAX_DEPTH)
        return power

    def moved(self, vector):
        """Return the effect with the same shift and with the heap moved by a vector."""
        return Effect(self._shift, _all_moved(self._terms, vector))

    def amount(self, place):
        """Return the count at a place; raise InvalidPlace, then Tangled with the index of a term."""
        if not is_place(place, self.dimension):
            raise InvalidPlace(place)
        return sum([_amount_of(index, term, place) for index, term in enumerate(self._terms)])

    def merged(self, *others):
        """Return the effect that does not move and has the terms of this one and of others."""
        terms = list(self._terms)
        for other in others:
            terms.extend(other.terms())
        return Effect(origin(self.dimension), terms)


def raised(effect, times):
    """Return the power of an effect, however many loops its terms have then."""
    if times < 0:
        return raised(-effect, -times)
    if times == 0:
        return Effect.still(effect.dimension)
    if times == 1:
        return effect
    terms = [looped(term, effect.shift, times) for term in effect.terms()]
    return Effect(scale(times, effect.shift), terms)


def looped(term, stride, times):
    """Return the term of running a term so many times, each round a stride further."""
    number, place, loops = term
    if stride == origin(len(stride)):
        return (number * times, place, loops)
    if is_forward(stride):
        return (number, place, ((stride, times), *loops))
    return (number, add(place, scale(times - 1, stride)), ((opposite(stride), times), *loops))


def _all_moved(terms, vector):
    """Return terms with their places moved by a vector."""
    return [(number, add(place, vector), loops) for number, place, loops in terms]


def _total_of(term):
    """Return the sum of the counts of a term."""
    total, _, loops = term
    for _, times in loops:
        total = total * times
    return total


def _amount_of(index, term, place):
    """Return what the term at an index adds to the count at a place; raise Tangled."""
    number, start, loops = term
    strides = [stride for stride, _ in loops]
    times = [many for _, many in loops]
    return number * untangled(index, strides, times, add(place, opposite(start)))[0]
