"""Single beats of a program: cutting it in two, and walking it step by step."""

from strewfar.blocks import reverse
from strewfar.errors import InvalidBeat, InvalidCount, InvalidPlace
from strewfar.places import add, is_place, origin
from strewfar.trails import Trail, trail_of_block, trail_of_statement

MAX_LIMIT = 10000


def split(parts, block, beat):
    """Return the trail of so many first beats of a block and that of the others.

    Raise the errors of Parts.check, then InvalidBeat.
    """
    parts.check(block)
    known = {}
    if not 0 <= beat <= trail_of_block(parts, block, known).beats:
        raise InvalidBeat(beat)
    return _split_block(parts, block, beat, known)


def _split_block(parts, block, beat, known):
    """Return both trails of a block, with the trails of parts in a dict by name."""
    front = Trail.still(parts.dimension)
    for index, statement in enumerate(block):
        trail = trail_of_statement(parts, statement, known)
        if beat < trail.beats:
            one, other = _split_statement(parts, statement, beat, known)
            return (front * one, other * trail_of_block(parts, block[index + 1:], known))
        front = front * trail
        beat = beat - trail.beats
    return (front, Trail.still(parts.dimension))


def _split_statement(parts, statement, beat, known):
    """Return both trails of a statement that has more beats than the first one."""
    if beat == 0:
        return (Trail.still(parts.dimension), trail_of_statement(parts, statement, known))
    word, given = statement[0], statement[1]
    if word == "repeat":
        body = statement[2] if given > 0 else reverse(statement[2])
        return _split_loop(parts, abs(given), body, beat, known)
    # A go and a put have one beat only, so that this is a part.
    block = parts.block(given)
    return _split_block(parts, block if word == "do" else reverse(block), beat, known)


def _split_loop(parts, times, body, beat, known):
    """Return both trails of a loop that has more beats than the first one."""
    trail = trail_of_block(parts, body, known)
    rounds, rest = divmod(beat, trail.beats)
    if rest == 0:
        return (trail.repeated(rounds), trail.repeated(times - rounds))
    one, other = _split_block(parts, body, rest, known)
    return (trail.repeated(rounds) * one, other * trail.repeated(times - rounds - 1))


def walk(parts, block, *, start=None, limit=1000):
    """Yield the beat, the place and the number of each put in the first beats, as many as the limit.

    Raise the errors of Parts.check, then InvalidPlace, then InvalidCount when the first one is asked for.
    """
    parts.check(block)
    place = origin(parts.dimension) if start is None else start
    if not is_place(place, parts.dimension):
        raise InvalidPlace(place)
    if not 0 <= limit <= MAX_LIMIT:
        raise InvalidCount(limit)
    runner = Runner(parts, block)
    for beat in range(limit):
        step = runner.next_step()
        if step is None:
            return
        if step[0] == "go":
            place = add(place, step[1])
        else:
            yield (beat, place, step[1])


class Runner:
    """Runs a block, one go or put after the other.

    A plan is a list of what has beats in a block: go, put, and ("repeat", times, plan). What has none is left out, so
    that no time is spent on it however often it runs.
    """

    def __init__(self, parts, block):
        self._parts = parts
        self._plans = {}
        # Each frame is a list: a plan that is being run, the index of its next step, and the rounds that are left.
        self._frames = [[self.plan_of(block), 0, 1]]

    def next_step(self):
        """Return the next go or put, or None if the block is done."""
        while len(self._frames) > 0:
            frame = self._frames[-1]
            plan, index, rounds = frame
            if index < len(plan):
                frame[1] = index + 1
                step = plan[index]
                if step[0] != "repeat":
                    return step
                self._frames.append([step[2], 0, step[1]])
            elif rounds > 1:
                frame[1] = 0
                frame[2] = rounds - 1
            else:
                self._frames.pop()
        return None

    def plan_of(self, block):
        """Return the plan of a block."""
        steps = [self.step_of(statement) for statement in block]
        return [step for step in steps if step is not None]

    def step_of(self, statement):
        """Return the step of a statement, or None if it has no beats."""
        word, given = statement[0], statement[1]
        if word in ("go", "put"):
            return statement
        if word == "repeat":
            times = abs(given)
            plan = self.plan_of(statement[2] if given > 0 else reverse(statement[2]))
        else:
            times = 1
            plan = self.plan_of_part(word, given)
        return ("repeat", times, plan) if times > 0 and len(plan) > 0 else None

    def plan_of_part(self, word, name):
        """Return the plan of doing or undoing a part."""
        if (word, name) not in self._plans:
            block = self._parts.block(name)
            self._plans[(word, name)] = self.plan_of(block if word == "do" else reverse(block))
        return self._plans[(word, name)]
