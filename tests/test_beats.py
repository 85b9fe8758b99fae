"""Point 7 and the section strewfar/beats.py."""

import itertools
import unittest

from helpers import (Dice, Prefix, Steps, counts_of, far_block, fields_of, first_tangled, heap_of, loads, moved, nested,
                     programs)
from strewfar.beats import split, walk
from strewfar.compare import difference, same
from strewfar.errors import (InvalidBeat, InvalidBlock, InvalidCount, InvalidPlace, TooDeep, TooLong, TooMany,
                             UnknownName)
from strewfar.parts import Parts
from strewfar.trails import Trail, trail_of

FAR = 10 ** 30
PUT = (("put", 1),)
BOTH = (("put", 1), ("go", (1,)))
WRONG = ((PUT + (("go", (1, 2)),), (InvalidBlock, (1,))), (PUT * 61, (TooLong, 60)),
         ((("do", "x"),), (UnknownName, "x")), (nested(7), (TooDeep, 6)),
         ((("do", "puts"), ("do", "puts")), (TooMany, 60)))


def told(trail):
    return trail.dimension, trail.beats, trail.shift, trail.strewings()


def shifted(puts, place, beat):
    """Return puts as another walker counts them, who starts at a place and a beat."""
    return [(when - beat, tuple(item - by for item, by in zip(there, place)), number) for when, there, number in puts]


def visits_of(puts, place):
    beats = [beat for beat, there, _ in puts if there == place]
    return (len(beats), min(beats, default=None), max(beats, default=None))


class SplitStepByStep(unittest.TestCase):
    def cuts(self, many, seed, levels):
        """Yield programs, cut at both ends and within."""
        for dimension, blocks, block, trail, steps in programs(many, seed, levels):
            puts = [(beat, place, number) for beat, place, number, _ in steps.puts]
            for beat in sorted({0, 1, trail.beats, *range(0, trail.beats, 1 + trail.beats // 8)}):
                if beat <= trail.beats:
                    yield dimension, blocks, block, trail, puts, beat

    def test_beats_shifts_and_effects(self):
        for dimension, blocks, block, trail, puts, beat in self.cuts(40, 700, 4):
            front, back = split(Parts(dimension, blocks), block, beat)
            half = Prefix(dimension, blocks, block, beat)
            with self.subTest(blocks=blocks, block=block, beat=beat):
                self.assertEqual((front.dimension, front.beats, back.beats), (dimension, beat, trail.beats - beat))
                self.assertEqual((front.shift, moved(front.shift, back.shift)), (half.place, trail.shift))
                self.assertEqual(heap_of(front.effect().terms()), half.heap())
                later = shifted([put for put in puts if put[0] >= beat], half.place, beat)
                self.assertEqual(heap_of(back.effect().terms()), counts_of([put[1:] for put in later]))

    def test_visits_of_both_trails(self):
        seen = 0
        for dimension, blocks, block, trail, puts, beat in self.cuts(20, 800, 3):
            if first_tangled([strewing[3] for strewing in trail.strewings()]) is not None:
                continue
            front, back = split(Parts(dimension, blocks), block, beat)
            later = shifted([put for put in puts if put[0] >= beat], front.shift, beat)
            for place in sorted({put[1] for put in puts} | {front.shift})[:12]:
                self.assertEqual(front.visits(place), visits_of([put for put in puts if put[0] < beat], place))
                seen += front.visits(place)[0] > 1
            for place in sorted({put[1] for put in later} | {back.shift})[:12]:
                self.assertEqual(back.visits(place), visits_of(later, place))
                seen += back.visits(place)[0] > 1
        self.assertGreater(seen, 100)

    def test_no_stride_counts_more(self):
        for dimension, blocks, block, trail, _, beat in self.cuts(40, 750, 4):
            self.assert_loads(trail, split(Parts(dimension, blocks), block, beat))

    def assert_loads(self, trail, both):
        whole = loads(trail.effect())
        for half in both:
            for stride, many in loads(half.effect()).items():
                self.assertLessEqual(many, whole.get(stride, 0))

    def test_both_ends(self):
        for dimension, blocks, block, trail, _ in programs(30, 11, 3):
            parts = Parts(dimension, blocks)
            front, back = split(parts, block, 0)
            self.assertEqual((front.beats, front.shift, front.strewings()), (0, (0,) * dimension, []))
            self.assertEqual((back.beats, back.shift, heap_of(back.effect().terms())),
                             (trail.beats, trail.shift, heap_of(trail.effect().terms())))
            front, back = split(parts, block, trail.beats)
            self.assertEqual((back.beats, back.shift, back.strewings()), (0, (0,) * dimension, []))
            self.assertEqual((front.beats, front.shift, heap_of(front.effect().terms())),
                             (trail.beats, trail.shift, heap_of(trail.effect().terms())))


class SplitFar(unittest.TestCase):
    def test_far_programs(self):
        compared = 0
        for dimension in (1, 2, 3):
            dice = Dice(40 + dimension)
            for _ in range(40):
                parts = Parts(dimension, {"a": far_block(dice, dimension, 1), "b": (("undo", "a"), ("put", 5))})
                block = far_block(dice, dimension, 3, ["a", "b"])
                if fields_of(parts.check, block) is None:
                    trail = trail_of(parts, block)
                    for cut in (0, 1, dice.roll(10 ** 9), trail.beats // 3, trail.beats // 2 + 1, trail.beats - 1,
                                trail.beats):
                        if 0 <= cut <= trail.beats:
                            compared += self.check_cut(parts, block, trail, cut)
        self.assertGreater(compared, 150)

    def check_cut(self, parts, block, trail, cut):
        front, back = split(parts, block, cut)
        self.assertEqual((front.beats, back.beats), (cut, trail.beats - cut))
        self.assertEqual((front * back).shift, trail.shift)
        self.assertEqual(front.effect().total + back.effect().total, trail.effect().total)
        SplitStepByStep.assert_loads(self, trail, (front, back))
        if fields_of(same, (front * back).effect(), trail.effect()) is not None:
            return False
        self.assertTrue(same((front * back).effect(), trail.effect()))
        return True

    def test_a_split_of_a_split(self):
        parts = Parts(2, {"a": (("repeat", 10 ** 9, (("put", 3), ("go", (2, -1)))), ("go", (0, 7)))})
        block = (("repeat", -FAR, (("put", 1), ("do", "a"))), ("put", 2))
        trail = trail_of(parts, block)
        cuts = [0, 1, 10 ** 9, FAR, 17 * FAR + 1, trail.beats - 2, trail.beats]
        for one, other in itertools.combinations(cuts, 2):
            between = split(parts, block, other)[0].effect().merged(-split(parts, block, one)[0].effect().merged())
            back = split(parts, block, one)[1].effect().moved(split(parts, block, one)[0].shift)
            rest = split(parts, block, other)[1].effect().moved(split(parts, block, other)[0].shift)
            self.assertIsNone(difference(between.merged(rest), back))

    def test_a_row(self):
        block = (("repeat", FAR, BOTH),)
        for cut in (0, 1, 2, 7, 10 ** 29 + 1, 2 * FAR - 1, 2 * FAR):
            front, back = split(Parts.empty(1), block, cut)
            self.assertEqual((front.shift, back.shift), ((cut // 2,), (FAR - cut // 2,)))
            puts = (cut + 1) // 2
            self.assertEqual((front.effect().total, back.effect().total), (puts, FAR - puts))
            if puts:
                self.assertEqual(front.visits((puts - 1,)), (1, 2 * puts - 2, 2 * puts - 2))
            self.assertEqual(front.visits((puts,)), (0, None, None))
            place = 10 ** 29 + 5
            first = 2 * (place + cut // 2) - cut
            if place + cut // 2 < FAR:
                self.assertEqual(back.visits((place,)), (1, first, first))

    def test_a_loop_backwards(self):
        block = (("repeat", -FAR, BOTH),)
        front, back = split(Parts.empty(1), block, 2 * 10 ** 20 + 1)
        self.assertEqual((front.shift, front.effect().total), ((-10 ** 20 - 1,), -10 ** 20))
        self.assertEqual((back.beats, back.visits((0,))), (2 * FAR - 2 * 10 ** 20 - 1, (1, 0, 0)))

    def test_loops_without_beats(self):
        block = (("repeat", FAR, nested(3)), ("put", 1), ("repeat", -FAR, (("do", "a"),)), ("go", (1,)),
                 ("repeat", 0, BOTH))
        for cut in range(3):
            front, back = split(Parts(1, {"a": nested(2)}), block, cut)
            self.assertEqual((front.beats, front.shift, back.beats), (cut, (max(0, cut - 1),), 2 - cut))

    def test_chains_of_parts(self):
        names = "abcdefghijkl"
        blocks = {name: (("do", names[index + 1]),) * 60 for index, name in enumerate(names[:11])}
        parts = Parts(1, {"l": (("go", (1,)),) * 60, **blocks})
        block = (("undo", "a"),) * 60
        for cut in (0, 1, 60 ** 13, 60 ** 12 + 59, 123456789012345678901):
            front, back = split(parts, block, cut)
            self.assertEqual((told(front), told(back)),
                             ((1, cut, (-cut,), []), (1, 60 ** 13 - cut, (cut - 60 ** 13,), [])))


class SplitErrors(unittest.TestCase):
    parts = Parts(1, {"puts": PUT * 31})

    def test_beats_that_are_not_there(self):
        for block, beats in (((), 0), (PUT, 1), (((("repeat", FAR, BOTH)),), 2 * FAR), ((("undo", "puts"),), 31)):
            for beat in (-1, -FAR, beats + 1, beats + 10 ** 70):
                self.assertEqual(fields_of(split, self.parts, block, beat), (InvalidBeat, beat))
            self.assertIsNone(fields_of(split, self.parts, block, beats))
            self.assertIsNone(fields_of(split, self.parts, block, 0))

    def test_errors_of_check_come_first(self):
        for block, error in WRONG:
            for beat in (0, 1, -1, 10 ** 90):
                self.assertEqual(fields_of(split, self.parts, block, beat), error)

    def test_a_tuple_of_trails(self):
        found = split(beat=1, block=BOTH, parts=self.parts)
        self.assertIsInstance(found, tuple)
        self.assertEqual([told(trail) for trail in found], [told(Trail.put(1, 1)), told(Trail.go((1,)))])


class Walk(unittest.TestCase):
    parts = Parts(1, {"puts": PUT * 31})

    def test_step_by_step(self):
        dice = Dice(8)
        for dimension, blocks, block, trail, steps in programs(60, 70, 4):
            parts = Parts(dimension, blocks)
            puts = [(beat, place, number) for beat, place, number, _ in steps.puts]
            self.assertEqual(list(walk(parts, block)), [put for put in puts if put[0] < 1000])
            self.assertEqual(list(walk(parts, block, limit=10000)), [put for put in puts if put[0] < 10000])
            for limit in (0, 1, 2, dice.roll(40), steps.beats % 10000):
                start = tuple(dice.roll(99) - 10 ** dice.roll(40) for _ in range(dimension))
                expected = [(beat, moved(place, start), number) for beat, place, number in puts if beat < limit]
                self.assertEqual(list(walk(parts, block, start=start, limit=limit)), expected)

    def test_a_thousand_beats_where_the_limit_is_left_out(self):
        block = (("repeat", FAR, (("put", 7),)),)
        self.assertEqual(list(walk(Parts.empty(2), block)), [(beat, (0, 0), 7) for beat in range(1000)])
        self.assertEqual(list(walk(Parts.empty(2), block, start=(5, -1))), [(beat, (5, -1), 7) for beat in range(1000)])
        self.assertEqual(len(list(walk(Parts.empty(2), block, limit=10000))), 10000)
        self.assertEqual(list(walk(Parts.empty(2), block, limit=0)), [])

    def test_goes_are_beats(self):
        self.assertEqual(list(walk(Parts.empty(1), (("go", (0,)),) * 5 + (("put", 3),), limit=6)), [(5, (0,), 3)])
        self.assertEqual(list(walk(Parts.empty(1), (("go", (0,)),) * 5 + (("put", 3),), limit=5)), [])
        self.assertEqual(list(walk(Parts.empty(1), (("put", 0),))), [(0, (0,), 0)])

    def test_many_beats(self):
        block = (("repeat", -FAR, (("put", 1), ("repeat", 3, (("go", (2,)), ("put", 4))))),)
        found = list(walk(Parts.empty(1), block, start=(1,), limit=9))
        self.assertEqual(found, [(0, (1,), -4), (2, (-1,), -4), (4, (-3,), -4), (6, (-5,), -1), (7, (-5,), -4)])

    def test_loops_without_beats_are_skipped(self):
        empty = (("repeat", FAR, nested(3)), ("repeat", -FAR, (("do", "a"), ("repeat", 0, PUT), ("undo", "a"))))
        parts = Parts(1, {"a": (("repeat", FAR, (("repeat", FAR, ()),)),)})
        block = empty + (("put", 1),) + empty + (("repeat", FAR, empty + (("put", 2),) + empty),)
        self.assertEqual(list(walk(parts, block, limit=3)), [(0, (0,), 1), (1, (0,), 2), (2, (0,), 2)])
        self.assertEqual(list(walk(parts, empty)), [])
        self.assertEqual(len(list(walk(parts, block, limit=10000))), 10000)

    def test_parts_without_beats_are_skipped(self):
        names = "abcdefghijkl"
        blocks = {name: (("do", names[index + 1]),) * 60 for index, name in enumerate(names[:11])}
        parts = Parts(1, {"l": (), **blocks})
        self.assertEqual(list(walk(parts, (("do", "a"), ("put", 1), ("undo", "a"), ("undo", "b"), ("put", 2)))),
                         [(0, (0,), 1), (1, (0,), 2)])

    def test_deep_parts(self):
        names = "abcdefghijkl"
        blocks = {name: (("undo", names[index + 1]), ("go", (1,))) for index, name in enumerate(names[:11])}
        parts = Parts(1, {"l": (("repeat", 5, PUT + (("go", (10,)),)),), **blocks})
        block = (("repeat", -FAR, (("do", "a"), ("do", "b"))),)
        steps = Prefix(1, parts.blocks(), block, 10000)
        self.assertEqual(list(walk(parts, block, limit=10000)), steps.puts)

    def test_walks_go_on_where_they_are(self):
        block = (("repeat", FAR, BOTH),)
        one, other = walk(Parts.empty(1), block), walk(Parts.empty(1), block, start=(5,))
        self.assertEqual([next(one), next(other), next(one), next(other)],
                         [(0, (0,), 1), (0, (5,), 1), (2, (1,), 1), (2, (6,), 1)])

    def test_errors_of_check(self):
        for block, error in WRONG:
            for named in ({}, {"start": (1, 2)}, {"limit": -1}, {"start": 7, "limit": 10001}):
                self.assertEqual(fields_of(lambda: next(walk(self.parts, block, **named))), error)

    def test_wrong_places(self):
        for start in ((), (1, 2), (True,), ("1",), [1], 5, "a"):
            for limit in (1000, -1, 10001, 0):
                self.assertEqual(fields_of(lambda: next(walk(self.parts, PUT, start=start, limit=limit))),
                                 (InvalidPlace, start))

    def test_wrong_limits(self):
        for limit in (-1, 10001, -FAR, FAR):
            self.assertEqual(fields_of(lambda: next(walk(self.parts, PUT, limit=limit))), (InvalidCount, limit))
            self.assertEqual(fields_of(lambda: list(walk(self.parts, (), limit=limit))), (InvalidCount, limit))
        for limit in (0, 1, 10000):
            self.assertIsNone(fields_of(lambda: list(walk(self.parts, PUT, limit=limit))))

    def test_errors_only_when_the_first_one_is_asked_for(self):
        for block, start, limit in ((PUT * 61, None, 5), (PUT, (1, 2), 5), (PUT, None, -1)):
            found = walk(self.parts, block, start=start, limit=limit)
            self.assertIsNotNone(fields_of(next, found))

    def test_a_generator(self):
        found = walk(parts=self.parts, block=PUT, limit=5, start=None)
        self.assertIs(iter(found), found)
        self.assertEqual(next(found), (0, (0,), 1))
        self.assertEqual(next(found, "done"), "done")
        with self.assertRaises(TypeError):
            walk(self.parts, PUT, (1,), 5)


class Plain(unittest.TestCase):
    def test_statement_by_statement(self):
        """Programs against the same ones written without parts and loops."""
        for dimension, blocks, block, trail, steps in programs(60, 600, 3):
            plain, place = (), (0,) * dimension
            for _, there, number, _ in steps.puts:
                plain += (("go", tuple(item - by for item, by in zip(there, place))), ("put", number))
                place = there
            if len(plain) > 60:
                continue
            walked = [put[1:] for put in walk(Parts(dimension, blocks), block)]
            self.assertEqual([put[1:] for put in walk(Parts.empty(dimension), plain)], walked)
            for cut in range(0, steps.beats + 1, 1 + steps.beats // 5):
                many = 2 * len([put for put in steps.puts if put[0] < cut])
                one = split(Parts(dimension, blocks), block, cut)[0].effect()
                other = split(Parts.empty(dimension), plain, many)[0].effect()
                self.assertEqual(heap_of(one.terms()), heap_of(other.terms()))
                self.assertEqual(Steps(dimension, {}, plain[:many]).amount((0,) * dimension),
                                 heap_of(one.terms()).get((0,) * dimension, 0))


if __name__ == "__main__":
    unittest.main()
