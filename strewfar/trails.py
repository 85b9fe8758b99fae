"""Trails: what the walker does beat after beat, without running each one."""

from strewfar.effects import Effect, looped
from strewfar.errors import InvalidPlace, TooDeep
from strewfar.lattices import untangled
from strewfar.parts import MAX_DEPTH
from strewfar.places import add, is_place, opposite, origin, scale


class Trail:
    """A number of beats, a shift and strewings. No trail changes."""

    def __init__(self, beats, shift, strewings):
        self._beats = beats
        self._shift = shift
        self._strewings = tuple(strewings)

    @staticmethod
    def still(dimension):
        """Return the trail of an empty block."""
        return Trail(0, origin(dimension), [])

    @staticmethod
    def go(vector):
        """Return the trail of one go."""
        return Trail(1, vector, [])

    @staticmethod
    def put(dimension, number):
        """Return the trail of one put."""
        return Trail(1, origin(dimension), [(number, origin(dimension), 0, ())])

    @property
    def dimension(self):
        """The number of dimensions of the ground."""
        return len(self._shift)

    @property
    def beats(self):
        """How many times a go or a put is run."""
        return self._beats

    @property
    def shift(self):
        """The vector from the walker's place at the beginning to that at the end."""
        return self._shift

    def strewings(self):
        """Return the list of strewings: tuples of a number, a place, a beat and loops."""
        return list(self._strewings)

    def __mul__(self, other):
        later = [(number, add(place, self._shift), beat + self._beats, loops)
                 for number, place, beat, loops in other._strewings]
        return Trail(self._beats + other._beats, add(self._shift, other._shift), [*self._strewings, *later])

    def __neg__(self):
        back = opposite(self._shift)
        # What is run last is run first in the reverse.
        strewings = [_backward(strewing, back, self._beats) for strewing in self._strewings[::-1]]
        return Trail(self._beats, back, strewings)

    def repeated(self, times):
        """Return the trail of running this one so many times, also a negative number; raise TooDeep."""
        if times < 0:
            return (-self).repeated(-times)
        if times == 0:
            return Trail.still(self.dimension)
        if times == 1:
            return self
        loop = (self._shift, times, self._beats)
        strewings = [(number, place, beat, (loop, *loops)) for number, place, beat, loops in self._strewings]
        if any([len(strewing[3]) > MAX_DEPTH for strewing in strewings]):
            raise TooDeep(MAX_DEPTH)
        return Trail(times * self._beats, scale(times, self._shift), strewings)

    def effect(self):
        """Return the effect: the shift and the counts that are left behind."""
        return Effect(self._shift, [_term_of(strewing) for strewing in self._strewings if strewing[0] != 0])

    def visits(self, place):
        """Return how often a number is put at a place, with the first and the last beat, or None and None.

        Raise InvalidPlace, then Tangled with the index of a strewing.
        """
        if not is_place(place, self.dimension):
            raise InvalidPlace(place)
        found = [_visits_of(index, strewing, place) for index, strewing in enumerate(self._strewings)]
        hits = [visit for visit in found if visit[0] > 0]
        first = min([visit[1] for visit in hits], default=None)
        last = max([visit[2] for visit in hits], default=None)
        return (sum([visit[0] for visit in hits]), first, last)


def _backward(strewing, back, many):
    """Return the reverse of a strewing, where the reverse of the whole moves by a vector in so many beats."""
    number, place, beat, loops = strewing
    for stride, times, beats in loops:
        place = add(place, scale(times - 1, stride))
        beat = beat + (times - 1) * beats
    reverses = [(opposite(stride), times, beats) for stride, times, beats in loops]
    return (-number, add(place, back), many - 1 - beat, tuple(reverses))


def _term_of(strewing):
    """Return the term of a strewing whose number is not 0."""
    number, place, _, loops = strewing
    term = (number, place, ())
    for stride, times, _ in reversed(loops):
        term = looped(term, stride, times)
    return term


def _visits_of(index, strewing, place):
    """Return how often the strewing at an index puts at a place, with the first and the last beat; raise Tangled."""
    _, start, beat, loops = strewing
    here = [loop for loop in loops if loop[0] == origin(len(start))]
    moving = [loop for loop in loops if loop[0] != origin(len(start))]
    strides = [loop[0] for loop in moving]
    times = [loop[1] for loop in moving]
    number, least, greatest = untangled(index, strides, times, add(place, opposite(start)))
    if number == 0:
        return (0, None, None)
    # Rounds run in the order of their tuples, so that the least tuple has the first beat.
    first = beat + sum([rounds * loop[2] for rounds, loop in zip(least, moving)])
    last = beat + sum([rounds * loop[2] for rounds, loop in zip(greatest, moving)])
    for _, many, beats in here:
        number = number * many
        last = last + (many - 1) * beats
    return (number, first, last)


def trail_of(parts, block):
    """Return the trail of a block; raise the errors of Parts.check."""
    parts.check(block)
    return trail_of_block(parts, block, {})


def trail_of_block(parts, block, known):
    """Return the trail of a block; the trails of parts are kept in a dict by name."""
    trail = Trail.still(parts.dimension)
    for statement in block:
        trail = trail * trail_of_statement(parts, statement, known)
    return trail


def trail_of_statement(parts, statement, known):
    """Return the trail of a statement."""
    word = statement[0]
    if word == "go":
        return Trail.go(statement[1])
    if word == "put":
        return Trail.put(parts.dimension, statement[1])
    if word == "repeat":
        return trail_of_block(parts, statement[2], known).repeated(statement[1])
    trail = _trail_of_part(parts, statement[1], known)
    return trail if word == "do" else -trail


def _trail_of_part(parts, name, known):
    """Return the trail of a part."""
    # Without the dict, parts that do one another many times would be run over and over.
    if name not in known:
        known[name] = trail_of_block(parts, parts.block(name), known)
    return known[name]
