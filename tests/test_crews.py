"""Point 15 and the section strewfar/crews.py."""

import unittest

from helpers import Dice, Prefix, Steps, counts_of, far_block, fields_of, heap_of, loads, moved, programs
from strewfar.beats import split
from strewfar.compare import same
from strewfar.crews import Crew, LateWalker, Walker
from strewfar.errors import CapacityExceeded, InvalidBeat, InvalidPlace, UnknownName, UnknownWalker
from strewfar.parts import Parts
from strewfar.trails import trail_of

FAR = 10 ** 30
BOTH = (("put", 1), ("go", (1,)))
LINE = Parts(1, {"a": BOTH, "b": (("repeat", FAR, BOTH),), "c": ()})
WRONG_STARTS = ((), (1, 2), (True,), ("1",), [1], [0], 5, "a", None)


def told(effect):
    return effect.dimension, effect.shift, effect.terms()


class StepByStep(unittest.TestCase):
    def test_walkers(self):
        dice = Dice(1)
        for dimension, blocks, block, trail, steps in programs(30, 1500, 3):
            parts = Parts(dimension, {**blocks, "c": block})
            start = tuple(dice.roll(99) - 10 ** dice.roll(20) for _ in range(dimension))
            delay = dice.roll(5)
            walkers = ((Walker("c", start), 0), (LateWalker("c", start), 1),
                       (LateWalker("c", start, delay=delay), delay))
            for walker, late in walkers:
                self.assertEqual(walker.last(parts), steps.beats + late)
                self.assertEqual((walker.trail(parts).beats, walker.trail(parts).strewings()),
                                 (trail.beats, trail.strewings()))
                for beats in (0, 1, 2, late, steps.beats // 2, steps.beats, steps.beats + late, steps.beats + 99,
                              10 ** 21):
                    half = Prefix(dimension, blocks, block, max(0, beats - late) if beats < 10 ** 20 else None, start)
                    effect = walker.effect_after(parts, beats)
                    self.assertEqual(walker.place_after(parts, beats), half.place)
                    self.assertEqual((effect.dimension, effect.shift), (dimension, (0,) * dimension))
                    self.assertEqual(heap_of(effect.terms()), half.heap())
                    whole = loads(trail.effect())
                    for stride, many in loads(effect).items():
                        self.assertLessEqual(many, whole.get(stride, 0))

    def test_crews(self):
        for dimension, blocks, block, _, steps in programs(20, 2500, 3):
            parts = Parts(dimension, {**blocks, "c": block})
            dice = Dice(steps.beats)
            crew, plan = Crew(parts), []
            for _ in range(dice.roll(9)):
                name = "abc"[dice.roll(3)]
                start = tuple(dice.roll(5) - 2 for _ in range(dimension))
                delay = dice.roll(3) * dice.roll(5)
                plan.append((name, start, delay))
                crew.join(LateWalker(name, start, delay=delay) if delay or dice.roll(2) else Walker(name, start))
            last = max([Steps(dimension, blocks, parts.block(name)).beats + delay for name, _, delay in plan],
                       default=0)
            self.assertEqual(crew.last(), last)
            for beat in (0, 1, 2, 5, last // 2, last, last + 7, None):
                halves = [Prefix(dimension, parts.blocks(), parts.block(name),
                                 None if beat is None else max(0, beat - delay), start) for name, start, delay in plan]
                effect = crew.effect(beat=beat)
                self.assertEqual(heap_of(effect.terms()),
                                 counts_of([put[1:] for half in halves for put in half.puts]))
                self.assertEqual((effect.dimension, effect.shift), (dimension, (0,) * dimension))
                if beat is not None:
                    self.assertEqual(crew.places(beat), [half.place for half in halves])
            self.assertEqual(told(crew.effect()), told(crew.effect(beat=None)))


class Walkers(unittest.TestCase):
    def test_properties(self):
        walker = Walker("a", (5,))
        self.assertEqual((walker.part, walker.start), ("a", (5,)))
        walker = Walker(start=(1, 2, 3), part="nobody")
        self.assertEqual((walker.part, walker.start), ("nobody", (1, 2, 3)))
        late = LateWalker("b", (7,))
        self.assertEqual((late.part, late.start, late.delay), ("b", (7,), 1))
        late = LateWalker(delay=10 ** 90, start=(7,), part="b")
        self.assertEqual((late.part, late.start, late.delay), ("b", (7,), 10 ** 90))
        self.assertEqual(LateWalker("b", (7,), delay=0).delay, 0)
        self.assertIsInstance(late, Walker)
        self.assertNotIsInstance(walker, LateWalker)
        with self.assertRaises(TypeError):
            LateWalker("b", (7,), 3)

    def test_beats_below_at_and_beyond(self):
        walker = Walker("b", (10 ** 40,))
        for beats, place in ((0, 0), (1, 0), (2, 1), (3, 1), (10 ** 21, 5 * 10 ** 20), (2 * FAR - 1, FAR - 1),
                             (2 * FAR, FAR), (2 * FAR + 1, FAR), (10 ** 500, FAR)):
            self.assertEqual(walker.place_after(LINE, beats), (10 ** 40 + place,))
            puts = min((beats + 1) // 2, FAR)
            effect = walker.effect_after(LINE, beats)
            self.assertEqual((effect.total, effect.shift), (puts, (0,)))
            self.assertEqual([effect.amount((10 ** 40 + there,)) for there in (-1, 0, puts - 1, puts)],
                             [0, int(puts > 0), int(puts > 0), 0] if puts != 0 else [0, 0, 0, 0])
        self.assertEqual(walker.last(LINE), 2 * FAR)

    def test_late_walkers(self):
        for delay in (0, 1, 2, 10 ** 20, 10 ** 70):
            late, walker = LateWalker("b", (3,), delay=delay), Walker("b", (3,))
            for beats in (0, 1, delay - 1, delay, delay + 1, delay + 7, delay + FAR, delay + 2 * FAR, delay + 10 ** 99):
                if beats >= 0:
                    self.assertEqual(late.place_after(LINE, beats), walker.place_after(LINE, max(0, beats - delay)))
                    self.assertEqual(told(late.effect_after(LINE, beats)),
                                     told(walker.effect_after(LINE, max(0, beats - delay))))
            self.assertEqual(late.last(LINE), 2 * FAR + delay)
            self.assertEqual(late.trail(LINE).beats, 2 * FAR)
        self.assertEqual([LateWalker("a", (5,)).place_after(LINE, beats) for beats in range(5)],
                         [(5,), (5,), (5,), (6,), (6,)])

    def test_empty_parts(self):
        self.assertEqual(Walker("c", (4,)).last(LINE), 0)
        self.assertEqual(LateWalker("c", (4,), delay=9).last(LINE), 9)
        self.assertEqual(Walker("c", (4,)).place_after(LINE, 10 ** 21), (4,))
        self.assertEqual(told(Walker("c", (4,)).effect_after(LINE, 5)), (1, (0,), []))

    def test_two_parts_by_turns(self):
        other = Parts(1, {"a": (("repeat", 3, (("go", (-2,)), ("put", 5))),)})
        for walker, late in ((Walker("a", (10,)), 0), (LateWalker("a", (10,), delay=2), 2)):
            for _ in range(3):
                self.assertEqual((walker.last(LINE), walker.last(other)), (2 + late, 6 + late))
                self.assertEqual((walker.place_after(LINE, 4), walker.place_after(other, 4)),
                                 ((11,), (8,) if late else (6,)))
                self.assertEqual((walker.effect_after(LINE, 9).total, walker.effect_after(other, 9).total), (1, 15))
                self.assertEqual((walker.trail(LINE).shift, walker.trail(other).shift), ((1,), (-6,)))
                self.assertEqual(fields_of(walker.last, Parts.empty(1)), (UnknownName, "a"))
                self.assertEqual(fields_of(walker.last, Parts(2, {"a": ()})), (InvalidPlace, (10,)))

    def queries(self, walker):
        return (lambda parts: walker.trail(parts), lambda parts: walker.last(parts),
                lambda parts: walker.place_after(parts, 1), lambda parts: walker.effect_after(parts, 1),
                lambda parts: walker.place_after(parts, 10 ** 21), lambda parts: walker.effect_after(parts, 0))

    def test_errors(self):
        for start in WRONG_STARTS:
            for walker in (Walker("a", start), LateWalker("a", start), LateWalker("a", start, delay=10 ** 40)):
                for query in self.queries(walker):
                    self.assertEqual(fields_of(query, LINE), (InvalidPlace, start))
                    self.assertEqual(fields_of(query, Parts(1, {"b": BOTH})), (UnknownName, "a"))
        for name in ("d", "", "A", "b" * 9):
            for walker in (Walker(name, (0,)), LateWalker(name, (0, 1))):
                for query in self.queries(walker):
                    self.assertEqual(fields_of(query, LINE), (UnknownName, name))

    def test_by_keyword(self):
        walker = LateWalker("a", (1,), delay=1)
        self.assertEqual(walker.place_after(beats=3, parts=LINE), (2,))
        self.assertEqual(walker.effect_after(beats=3, parts=LINE).total, 1)
        self.assertEqual((walker.last(parts=LINE), walker.trail(parts=LINE).beats), (3, 2))

    def test_far_parts(self):
        for dimension in (1, 2, 3):
            dice = Dice(70 + dimension)
            for _ in range(15):
                parts = Parts(dimension, {"a": far_block(dice, dimension, 3)})
                trail = trail_of(parts, (("do", "a"),))
                start = (10 ** 33,) * dimension
                walker = LateWalker("a", start, delay=17)
                for beats in (0, 17, 18, trail.beats // 3, trail.beats + 16, trail.beats + 17, 10 ** 200):
                    cut = min(max(0, beats - 17), trail.beats)
                    front = split(parts, parts.block("a"), cut)[0]
                    self.assertEqual(walker.place_after(parts, beats), moved(front.shift, start))
                    effect = walker.effect_after(parts, beats)
                    self.assertEqual(effect.total, front.effect().total)
                    for stride, many in loads(effect).items():
                        self.assertLessEqual(many, loads(trail.effect()).get(stride, 0))
                    if fields_of(same, effect, effect) is None:
                        self.assertTrue(same(effect, front.effect().moved(start).merged()))


class Crews(unittest.TestCase):
    def crew(self, *walkers, parts=LINE):
        crew = Crew(parts)
        crew.join(*walkers)
        return crew

    def state(self, crew):
        return len(crew), crew.walkers(), crew.places(3), crew.last(), told(crew.effect())

    def test_without_walkers(self):
        crew = Crew(parts=LINE)
        self.assertEqual((len(crew), crew.walkers(), crew.last()), (0, [], 0))
        self.assertEqual((crew.places(0), crew.places(10 ** 50)), ([], []))
        self.assertEqual(told(crew.effect()), (1, (0,), []))
        self.assertEqual(told(crew.effect(beat=5)), (1, (0,), []))
        crew.join()
        self.assertEqual(len(crew), 0)
        self.assertEqual(told(Crew(Parts.empty(3)).effect()), (3, (0, 0, 0), []))

    def test_join_and_leave(self):
        walkers = [Walker("a", (place,)) for place in range(8)]
        crew = self.crew(walkers[0])
        self.assertIsNone(crew.join(walkers[1], walkers[2]))
        crew.join(*walkers[3:])
        self.assertEqual((len(crew), crew.walkers()), (8, walkers))
        self.assertIs(crew.leave(2), walkers[2])
        self.assertEqual(crew.walkers(), walkers[:2] + walkers[3:])
        self.assertEqual(crew.places(2), [(1,), (2,), (4,), (5,), (6,), (7,), (8,)])
        self.assertIs(crew.leave(index=6), walkers[7])
        crew.join(walkers[2])
        self.assertEqual(crew.walkers(), walkers[:2] + walkers[3:7] + [walkers[2]])
        self.assertIs(crew.leave(0), walkers[0])
        self.assertEqual(len(crew), 6)

    def test_a_walker_who_joins_twice(self):
        walker, late = Walker("a", (0,)), LateWalker("a", (0,), delay=3)
        crew = self.crew(walker, late, walker)
        crew.join(walker)
        self.assertEqual(crew.walkers(), [walker, late, walker, walker])
        self.assertEqual((crew.effect().amount((0,)), crew.effect(beat=3).amount((0,))), (4, 3))
        self.assertIs(crew.leave(0), walker)
        self.assertEqual(crew.walkers(), [late, walker, walker])

    def test_a_walker_in_two_crews(self):
        walker = Walker("a", (0,))
        one = self.crew(walker)
        other = self.crew(walker, parts=Parts(1, {"a": (("go", (9,)),)}))
        self.assertEqual((one.places(5), other.places(5), one.last(), other.last()), ([(1,)], [(9,)], 2, 1))
        one.leave(0)
        self.assertEqual((len(one), len(other)), (0, 1))

    def test_places_effect_and_last(self):
        crew = self.crew(Walker("b", (0,)), LateWalker("b", (1,), delay=4), Walker("a", (-5,)), Walker("c", (7,)))
        self.assertEqual(crew.last(), 2 * FAR + 4)
        self.assertEqual(crew.places(0), [(0,), (1,), (-5,), (7,)])
        self.assertEqual(crew.places(10), [(5,), (4,), (-4,), (7,)])
        self.assertEqual(crew.places(beat=10 ** 40), [(FAR,), (FAR + 1,), (-4,), (7,)])
        effect = crew.effect()
        self.assertEqual([effect.amount((place,)) for place in (-5, -4, 0, 1, FAR - 1, FAR, FAR + 1)],
                         [1, 0, 1, 2, 2, 1, 0])
        effect = crew.effect(beat=7)
        self.assertEqual([effect.amount((place,)) for place in range(-1, 6)], [0, 1, 2, 2, 1, 0, 0])
        self.assertEqual(effect.total, 1 + 4 + 2)
        self.assertEqual(crew.effect(beat=0).total, 0)
        self.assertEqual(told(crew.effect(beat=10 ** 90)), told(crew.effect()))

    def test_counts_of_all_are_added(self):
        parts = Parts(1, {"a": (("put", 5),), "b": (("put", -5),)})
        crew = self.crew(Walker("a", (1,)), Walker("b", (1,)), Walker("a", (2,)), parts=parts)
        self.assertEqual([crew.effect().amount((place,)) for place in (0, 1, 2)], [0, 0, 5])

    def test_no_stride_counts_more_than_in_the_parts(self):
        blocks = {"a": (("repeat", 10 ** 9, (("repeat", 10 ** 9, BOTH), ("go", (1 - 10 ** 9,)))),),
                  "b": (("repeat", FAR, BOTH),)}
        parts = Parts(1, blocks)
        crew = self.crew(*[Walker("ab"[place % 2], (place,)) for place in range(8)], parts=parts)
        for beat in (None, 0, 5, 10 ** 9, 10 ** 9 + 3, 10 ** 18 + 7, 10 ** 50):
            found = loads(crew.effect(beat=beat))
            self.assertLessEqual(set(found), {(1,)})
            self.assertLessEqual(found.get((1,), 0), 2)

    def test_too_many_walkers(self):
        walker, unknown = Walker("a", (0,)), Walker("x", (0,))
        crew = self.crew(*[walker] * 7)
        before = self.state(crew)
        for more in ([walker] * 2, [unknown] * 2, [walker] * 50, [unknown, walker, walker]):
            self.assertEqual(fields_of(crew.join, *more), (CapacityExceeded, 8))
            self.assertEqual(self.state(crew), before)
        crew.join(walker)
        self.assertEqual(len(crew), 8)
        self.assertEqual(fields_of(crew.join, unknown), (CapacityExceeded, 8))
        self.assertIsNone(fields_of(crew.join))
        self.assertEqual(fields_of(Crew(LINE).join, *[walker] * 9), (CapacityExceeded, 8))

    def test_walkers_who_cannot_join(self):
        good = Walker("a", (0,))
        crew = self.crew(good, good)
        before = self.state(crew)
        for walkers, error in (([good, Walker("x", (0,))], (UnknownName, "x")),
                               ([Walker("y", (0, 1)), Walker("a", (0, 1))], (UnknownName, "y")),
                               ([Walker("a", (0, 1)), Walker("y", (0,))], (InvalidPlace, (0, 1))),
                               ([LateWalker("a", (True,)), good], (InvalidPlace, (True,))),
                               ([good, good, LateWalker("", ())], (UnknownName, ""))):
            self.assertEqual(fields_of(crew.join, *walkers), error)
            self.assertEqual(self.state(crew), before)
        for start in WRONG_STARTS:
            self.assertEqual(fields_of(crew.join, good, Walker("a", start)), (InvalidPlace, start))
            self.assertEqual(self.state(crew), before)

    def test_walkers_who_are_not_there(self):
        crew = self.crew(Walker("a", (0,)), Walker("a", (1,)))
        before = self.state(crew)
        for index in (2, 3, -1, -2, -3, FAR):
            self.assertEqual(fields_of(crew.leave, index), (UnknownWalker, index))
            self.assertEqual(self.state(crew), before)
        self.assertEqual(fields_of(Crew(LINE).leave, 0), (UnknownWalker, 0))

    def test_negative_beats(self):
        for crew in (Crew(LINE), self.crew(LateWalker("a", (0,), delay=50))):
            for beat in (-1, -2, -10 ** 90):
                self.assertEqual(fields_of(crew.places, beat), (InvalidBeat, beat))
                self.assertEqual(fields_of(lambda: crew.effect(beat=beat)), (InvalidBeat, beat))
        with self.assertRaises(TypeError):
            Crew(LINE).effect(3)

    def test_lists_are_new_and_queries_change_nothing(self):
        crew = self.crew(Walker("a", (0,)), LateWalker("b", (1,)))
        before = self.state(crew)
        crew.walkers().clear()
        crew.places(4).append((1,))
        crew.effect(beat=1)
        self.assertEqual(self.state(crew), before)
        self.assertIsInstance(crew.walkers(), list)
        self.assertIsInstance(crew.places(1), list)

    def test_far_crews(self):
        row = (("repeat", 10 ** 9, (("put", 1), ("go", (1, 0)))), ("go", (-10 ** 9, 1)))
        parts = Parts(2, {"a": (("repeat", FAR, row),), "b": (("repeat", -FAR, (("do", "c"),)),),
                          "c": (("put", 3), ("go", (0, 2)))})
        crew = self.crew(Walker("a", (0, 0)), LateWalker("b", (5, 10 ** 40), delay=FAR), Walker("c", (1, 1)),
                         parts=parts)
        last = FAR * (2 * 10 ** 9 + 1)
        self.assertEqual(crew.last(), last)
        cut = (2 * 10 ** 9 + 1) * (10 ** 20) + 7
        self.assertEqual(crew.places(cut), [(3, 10 ** 20), (5, 10 ** 40), (1, 3)])
        self.assertEqual(crew.effect(beat=cut).total, 10 ** 29 + 4 + 3)
        self.assertEqual(crew.effect().total, FAR * 10 ** 9 - 3 * FAR + 3)
        self.assertEqual(crew.places(last), [(0, FAR), (5, 10 ** 40 - 2 * FAR), (1, 3)])


if __name__ == "__main__":
    unittest.main()
