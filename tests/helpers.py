"""What several tests need."""

import fractions
import itertools

from strewfar import errors
from strewfar.blocks import reverse
from strewfar.parts import Parts
from strewfar.trails import Trail, trail_of


def fields_of(call, *arguments, **named):
    """Return the class and the field of the error that a call raises, or None if it raises none."""
    try:
        call(*arguments, **named)
    except (errors.StrewError, errors.NotFound) as error:
        fields = [value for name, value in vars(error).items() if name != "tag"]
        assert error.tag == error.__class__.__name__
        return (error.__class__, *fields)
    return None


def within_loops(block, indexes):
    """Return a block that holds a block in loops, at the index given for each, the outermost first."""
    for index in reversed(indexes):
        block = (("put", 1),) * index + (("repeat", 2, block), ("do", "last"))
    return block


def nested(levels):
    """Return a block with so many loops within one another, the innermost empty."""
    block = ()
    for _ in range(levels):
        block = (("repeat", 1, block),)
    return block


class Dice:
    """Numbers that look random, the same in each run."""

    def __init__(self, seed):
        self.state = seed

    def roll(self, sides):
        self.state = (self.state * 6364136223846793005 + 1442695040888963407) % 2 ** 64
        return (self.state >> 33) % sides


def random_block(dice, dimension, levels):
    """Return a block with up to three statements, with loops up to so many levels."""
    return tuple(random_statement(dice, dimension, levels) for _ in range(dice.roll(4)))


def random_statement(dice, dimension, levels):
    kind = dice.roll(5 if levels > 0 else 4)
    number = (dice.roll(7) - 3) * 10 ** dice.roll(12)
    if kind == 0:
        return ("go", tuple((dice.roll(7) - 3) * 10 ** dice.roll(12) for _ in range(dimension)))
    if kind == 1:
        return ("put", number)
    if kind == 4:
        return ("repeat", number * 10 ** dice.roll(18), random_block(dice, dimension, levels - 1))
    return ("do" if kind == 2 else "undo", "abcdefgh"[dice.roll(8):])


def runs(blocks, block, forward=True, path=(), loops=()):
    """Run a block statement by statement: yield a go or a put, its path and the times of the loops around it."""
    for index in range(len(block)) if forward else reversed(range(len(block))):
        word, given = block[index][:2]
        here = (*path, index)
        if word in ("go", "put"):
            yield word, given if forward else opposite_of(given), here, loops
        elif word in ("do", "undo"):
            yield from runs(blocks, blocks[given], forward == (word == "do"), here, loops)
        else:
            around = (*loops, abs(given)) if abs(given) > 1 else loops
            for _ in range(abs(given)):
                yield from runs(blocks, block[index][2], forward == (given > 0), here, around)


def opposite_of(given):
    return tuple(-item for item in given) if isinstance(given, tuple) else -given


class Steps:
    """What comes out when a block is run beat after beat."""

    def __init__(self, dimension, blocks, block):
        self.beats = 0
        self.shift = (0,) * dimension
        self.puts = []
        self.times = {}
        for word, given, path, loops in runs(blocks, block):
            if word == "go":
                self.shift = tuple(one + other for one, other in zip(self.shift, given))
            else:
                self.puts.append((self.beats, self.shift, given, path))
                self.times[path] = loops
            self.beats += 1

    def places(self):
        """Return the places where something is put, and some near them."""
        found = {place for _, place, _, _ in self.puts} | {self.shift}
        return sorted(found | {tuple(item + 1 for item in place) for place in found})

    def amount(self, place):
        return sum(number for _, there, number, _ in self.puts if there == place)

    def visits(self, place):
        beats = [beat for beat, there, _, _ in self.puts if there == place]
        return (len(beats), min(beats, default=None), max(beats, default=None))

    def strewn(self):
        """Return, for each put in the order of the first runs, the times of its loops and all its runs."""
        found = {}
        for beat, place, number, path in self.puts:
            found.setdefault(path, (self.times[path], []))[1].append((number, place, beat))
        return list(found.values())


def spread(strewing):
    """Return the times of the loops of a strewing and all its runs, in the form of Steps.strewn."""
    number, place, beat, loops = strewing
    found = []
    for rounds in itertools.product(*[range(times) for _, times, _ in loops]):
        there = tuple(item + sum(many * stride[axis] for many, (stride, _, _) in zip(rounds, loops))
                      for axis, item in enumerate(place))
        found.append((number, there, beat + sum(many * beats for many, (_, _, beats) in zip(rounds, loops))))
    return tuple(times for _, times, _ in loops), found


def heap_of(terms):
    """Return the counts that terms stand for, by place, without those that are 0."""
    counts = {}
    for number, place, loops in terms:
        for rounds in itertools.product(*[range(times) for _, times in loops]):
            there = tuple(item + sum(many * stride[axis] for many, (stride, _) in zip(rounds, loops))
                          for axis, item in enumerate(place))
            counts[there] = counts.get(there, 0) + number
    return {place: count for place, count in counts.items() if count != 0}


def small_program(dice, dimension, levels):
    """Return blocks of parts and a block that uses them: small enough to be run step by step."""
    blocks = {}
    for name in ("a", "b"):
        blocks[name] = small_block(dice, dimension, 1, sorted(blocks))
    return blocks, small_block(dice, dimension, levels, sorted(blocks))


def small_block(dice, dimension, levels, names):
    length = dice.roll(4) + (levels > 1)
    return tuple(small_statement(dice, dimension, levels, names) for _ in range(length))


def small_statement(dice, dimension, levels, names):
    kind = dice.roll(10)
    if kind < 2 and names:
        return (("do", "undo")[kind], names[dice.roll(len(names))])
    if kind < 4:
        return ("put", dice.roll(7) - 3)
    if kind < 6 or levels == 0:
        return ("go", tuple(dice.roll(5) - 2 for _ in range(dimension)))
    times = (-3, -2, -1, 0, 1, 2, 3, 2)[dice.roll(8)]
    return ("repeat", times, small_block(dice, dimension, levels - 1, names))


def programs(many, seed, levels=3):
    """Yield a dimension, parts, a block, its trail and what comes out step by step."""
    for dimension in (1, 2, 3):
        dice = Dice(seed + dimension)
        for _ in range(many):
            blocks, block = small_program(dice, dimension, levels)
            parts = Parts(dimension, blocks)
            if fields_of(parts.check, block) is None:
                yield dimension, blocks, block, trail_of(parts, block), Steps(dimension, blocks, block)


def scaled(factor, block):
    """Return a block with all its vectors multiplied."""
    return tuple(scaled_statement(factor, statement) for statement in block)


def scaled_statement(factor, statement):
    if statement[0] == "go":
        return ("go", tuple(factor * item for item in statement[1]))
    if statement[0] == "repeat":
        return ("repeat", statement[1], scaled(factor, statement[2]))
    return statement


def rank(vectors):
    """Return the rank of vectors, by elimination with fractions."""
    rows = [[fractions.Fraction(item) for item in vector] for vector in vectors]
    found = 0
    for column in range(len(rows[0]) if rows else 0):
        heads = [row for row in rows if row[column] != 0]
        if heads:
            found += 1
            rows = [[item - row[column] / heads[0][column] * head for item, head in zip(row, heads[0])]
                    for row in rows if row is not heads[0]]
    return found


def first_tangled(list_of_loops):
    """Return the index of the first loops whose strides are tangled, or None."""
    for index, loops in enumerate(list_of_loops):
        strides = [loop[0] for loop in loops if any(loop[0])]
        if len(strides) - rank(strides) > 1:
            return index
    return None


def going(*vector):
    """Return the effect of one go."""
    return Trail.go(vector).effect()


def effect_of(block, dimension=1, **blocks):
    """Return the effect of a block with these parts."""
    return trail_of(Parts(dimension, blocks), block).effect()


def counts_of(puts):
    """Return the counts by place, without those that are 0, that pairs of a place and a number leave."""
    counts = {}
    for place, number in puts:
        counts[place] = counts.get(place, 0) + number
    return {place: count for place, count in counts.items() if count != 0}


def moved(place, vector):
    return tuple(item + by for item, by in zip(place, vector))


class Prefix:
    """What comes out of the first beats of a block, run beat after beat; of all beats, if there are not so many."""

    def __init__(self, dimension, blocks, block, beats, start=None):
        self.place = (0,) * dimension if start is None else start
        self.puts = []
        for beat, (word, given, _, _) in enumerate(itertools.islice(runs(blocks, block), beats)):
            if word == "go":
                self.place = moved(self.place, given)
            else:
                self.puts.append((beat, self.place, given))

    def heap(self):
        return counts_of([(place, number) for _, place, number in self.puts])


def loads(effect):
    """Return how much each stride counts in the load of an effect."""
    most = {}
    for _, _, loops in effect.terms():
        for stride, _ in loops:
            many = len([loop for loop in loops if loop[0] == stride])
            most[stride] = max(most.get(stride, 0), many)
    return most


def far_block(dice, dimension, levels, names=()):
    """Return a block whose loops run very often, up to so many levels deep."""
    block = [far_statement(dice, dimension, levels, names) for _ in range(1 + dice.roll(3))]
    return tuple(block) + (("put", 1 + dice.roll(5)),)


def far_statement(dice, dimension, levels, names):
    kind = dice.roll(6)
    if kind == 0 and names:
        return (("do", "undo")[dice.roll(2)], names[dice.roll(len(names))])
    if kind < 3 and levels > 0:
        times = (dice.roll(2) * 2 - 1) * (2 + dice.roll(10 ** (1 + dice.roll(9))) * 10 ** dice.roll(21))
        return ("repeat", times, far_block(dice, dimension, levels - 1, names))
    if kind == 3:
        return ("put", dice.roll(9) - 4)
    return ("go", tuple((dice.roll(7) - 3) * 10 ** dice.roll(5) for _ in range(dimension)))


def otherwise(dice, block):
    """Return the block with one statement written otherwise: it does the same, but its loops may be others."""
    index = dice.roll(len(block))
    return block[:index] + rewritten(dice, block[index]) + block[index + 1:]


def rewritten(dice, statement):
    word, given = statement[:2]
    if word == "put":
        part = dice.roll(2001) - 1000
        return (("put", part), ("put", given - part))
    if word == "go":
        part = tuple(dice.roll(2001) - 1000 for _ in given)
        return (("go", part), ("go", moved(given, opposite_of(part))))
    if word != "repeat":
        return (statement, (word, given), ({"do": "undo", "undo": "do"}[word], given))
    return rewritten_loop(dice, given, statement[2])


def rewritten_loop(dice, times, body):
    kind = dice.roll(5)
    if kind == 0:
        part = dice.roll(10 ** 9)
        return (("repeat", part, body), ("repeat", times - part, body))
    if kind == 1:
        return (("repeat", -times, reverse(body)),)
    if kind == 2:
        factor = max(number for number in (1, 2, 3, 5, 10) if times % number == 0)
        return (("repeat", times // factor, (("repeat", factor, body),)),)
    if kind == 3 and times > 1:
        cut = dice.roll(len(body) + 1)
        return (*body[:cut], ("repeat", times - 1, body[cut:] + body[:cut]), *body[cut:])
    return (("repeat", times, otherwise(dice, body)),)


def measure(blocks, block):
    """Return the depth and the puts of a block with those of its parts written in place of their names."""
    depth, puts = 0, 0
    for statement in block:
        levels, many = 0, int(statement[0] == "put")
        if statement[0] == "repeat":
            levels, many = measure(blocks, statement[2])
            levels += 1
        elif statement[0] != "go" and statement[0] != "put":
            levels, many = measure(blocks, blocks[statement[1]])
        depth, puts = max(depth, levels), puts + many
    return depth, puts


def named_in(block):
    """Return the names in a block, as often as they occur."""
    found = []
    for statement in block:
        if statement[0] in ("do", "undo"):
            found.append(statement[1])
        elif statement[0] == "repeat":
            found += named_in(statement[2])
    return found


def uses(blocks, name):
    """Return the names of the parts that a part uses."""
    found, waiting = set(), named_in(blocks[name])
    while waiting:
        other = waiting.pop()
        if other not in found:
            found.add(other)
            waiting += named_in(blocks[other])
    return found
