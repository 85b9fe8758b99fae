"""Crews: walkers that add to the same ground at the same time."""

from strewfar.beats import split
from strewfar.effects import Effect
from strewfar.errors import CapacityExceeded, InvalidBeat, InvalidPlace, UnknownWalker
from strewfar.places import add, is_place
from strewfar.trails import trail_of

MAX_WALKERS = 8


class Walker:
    """The name of a part, and the place where a walker starts to run it."""

    def __init__(self, part, start):
        self._part = part
        self._start = start

    @property
    def part(self):
        """The name of the part."""
        return self._part

    @property
    def start(self):
        """The place where the walker starts."""
        return self._start

    def trail(self, parts):
        """Return the trail of the part; raise UnknownName, InvalidPlace."""
        block = parts.block(self._part)
        if not is_place(self._start, parts.dimension):
            raise InvalidPlace(self._start)
        return trail_of(parts, block)

    def place_after(self, parts, beats):
        """Return the place behind so many beats; raise UnknownName, InvalidPlace."""
        return add(self._start, self.front(parts, beats).shift)

    def effect_after(self, parts, beats):
        """Return the effect that does not move and has the heap that is left by then.

        Raise UnknownName, InvalidPlace.
        """
        heap = self.front(parts, beats).effect().moved(self._start)
        return Effect.still(parts.dimension).merged(heap)

    def last(self, parts):
        """Return the number of beats after which the walker stays; raise UnknownName, InvalidPlace."""
        return self.trail(parts).beats

    def front(self, parts, beats):
        """Return the trail of so many first beats, or of all if there are not so many.

        Raise UnknownName, InvalidPlace.
        """
        trail = self.trail(parts)
        if beats >= trail.beats:
            return trail
        return split(parts, parts.block(self._part), beats)[0]


class LateWalker(Walker):
    """A walker that waits before its first step."""

    def __init__(self, part, start, *, delay=1):
        Walker.__init__(self, part, start)
        self._delay = delay

    @property
    def delay(self):
        """The number of beats that the walker waits."""
        return self._delay

    def place_after(self, parts, beats):
        """Return the place behind so many beats; raise UnknownName, InvalidPlace."""
        return super().place_after(parts, max(0, beats - self._delay))

    def effect_after(self, parts, beats):
        """Return the effect that does not move and has the heap that is left by then.

        Raise UnknownName, InvalidPlace.
        """
        return super().effect_after(parts, max(0, beats - self._delay))

    def last(self, parts):
        """Return the number of beats after which the walker stays; raise UnknownName, InvalidPlace."""
        return super().last(parts) + self._delay


class Crew:
    """Up to eight walkers, who run the same parts."""

    def __init__(self, parts):
        self._parts = parts
        self._walkers = []

    def __len__(self):
        return len(self._walkers)

    def join(self, *walkers):
        """Add walkers, all or none; raise CapacityExceeded, UnknownName, InvalidPlace."""
        if len(self._walkers) + len(walkers) > MAX_WALKERS:
            raise CapacityExceeded(MAX_WALKERS)
        for walker in walkers:
            walker.trail(self._parts)
        self._walkers.extend(list(walkers))

    def leave(self, index):
        """Remove the walker at an index and return it; raise UnknownWalker."""
        if not 0 <= index < len(self._walkers):
            raise UnknownWalker(index)
        return self._walkers.pop(index)

    def walkers(self):
        """Return the walkers in order."""
        return list(self._walkers)

    def places(self, beat):
        """Return the places of the walkers behind so many beats; raise InvalidBeat."""
        _check_beat(beat)
        return [walker.place_after(self._parts, beat) for walker in self._walkers]

    def effect(self, *, beat=None):
        """Return the effect that does not move and has all heaps, behind so many beats, or at the end if it is None.

        Raise InvalidBeat.
        """
        if beat is None:
            beat = self.last()
        _check_beat(beat)
        heaps = [walker.effect_after(self._parts, beat) for walker in self._walkers]
        return Effect.still(self._parts.dimension).merged(*heaps)

    def last(self):
        """Return the number of beats after which all walkers stay."""
        return max([walker.last(self._parts) for walker in self._walkers], default=0)


def _check_beat(beat):
    """Raise InvalidBeat if a number of beats is negative."""
    if beat < 0:
        raise InvalidBeat(beat)
