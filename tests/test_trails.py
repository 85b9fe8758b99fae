"""Points 3, 7 and 12 and the section strewfar/trails.py."""

import unittest

from helpers import Dice, Steps, fields_of, first_tangled, nested, programs, scaled, small_block, spread
from strewfar.blocks import reverse
from strewfar.errors import InvalidBlock, InvalidPlace, Tangled, TooDeep, TooLong, TooMany, UnknownName
from strewfar.parts import Parts
from strewfar.trails import Trail, trail_of

FAR = 10 ** 30
NEVER = (0, None, None)
PUT = (("put", 1),)
WRONG_PLACES = ((), (1,), (1, 2, 3), (1, True), (False, 0), ("1", 2), (1, None), [1, 2], [0, 0], "12", 5, None)


def told(trail):
    """Return all that a trail tells of itself."""
    return trail.dimension, trail.beats, trail.shift, trail.strewings()


def run(block, dimension=1, **blocks):
    return trail_of(Parts(dimension, blocks), block)


def deep(levels):
    """Return a trail with a put in so many loops of two rounds, the outermost with the longest stride."""
    trail = Trail.put(1, 1)
    for _ in range(levels):
        trail = (trail * Trail.go((1,))).repeated(2)
    return trail


class Single(unittest.TestCase):
    def test_still(self):
        for dimension in (1, 2, 3):
            self.assertEqual(told(Trail.still(dimension)), (dimension, 0, (0,) * dimension, []))

    def test_go(self):
        for vector in ((5,), (0,), (-1, 2), (0, 0), (1, -2, 3), (10 ** 700, 0)):
            self.assertEqual(told(Trail.go(vector)), (len(vector), 1, vector, []))

    def test_put(self):
        for dimension in (1, 2, 3):
            for number in (0, 1, -5, 10 ** 12):
                zeros = (0,) * dimension
                self.assertEqual(told(Trail.put(dimension, number)), (dimension, 1, zeros, [(number, zeros, 0, ())]))

    def test_static_methods_of_objects(self):
        self.assertEqual(told(Trail.go((1,)).still(2)), (2, 0, (0, 0), []))


class StepByStep(unittest.TestCase):
    """Programs against running them step by step."""

    def test_beats_shift_and_strewings(self):
        most = 0
        for _, blocks, block, trail, steps in programs(250, 70, 4):
            with self.subTest(blocks=blocks, block=block):
                self.assertEqual((trail.beats, trail.shift), (steps.beats, steps.shift))
                self.assertEqual([spread(strewing) for strewing in trail.strewings()], steps.strewn())
            most = max([most, *[len(loops) for _, _, _, loops in trail.strewings()]])
        self.assertGreaterEqual(most, 4)

    def test_visits(self):
        seen = {"never": 0, "once": 0, "more": 0, "tangled": 0}
        for dimension, blocks, block, trail, steps in programs(120, 20, 4):
            index = first_tangled([strewing[3] for strewing in trail.strewings()])
            for place in steps.places()[:40]:
                with self.subTest(blocks=blocks, block=block, place=place):
                    if index is not None:
                        self.assertEqual(fields_of(trail.visits, place), (Tangled, index))
                        seen["tangled"] += 1
                        continue
                    visits = trail.visits(place)
                    self.assertEqual(visits, steps.visits(place))
                    seen[("never", "once", "more")[min(visits[0], 2)]] += 1
        self.assertGreater(min(seen.values()), 200)

    def test_loops_up_to_four_deep(self):
        inner = (("put", 3), ("go", (1, 0)), ("do", "a"))
        for signs in range(16):
            block = inner
            for level in range(4):
                times = (2 + level % 2) * (-1 if signs >> level & 1 else 1)
                block = (("go", (level, 1)), ("repeat", times, block), ("put", level))
            steps = Steps(2, {"a": (("undo", "b"), ("put", 5)), "b": (("put", 4), ("go", (0, 7)))}, block)
            trail = run(block, 2, a=(("undo", "b"), ("put", 5)), b=(("put", 4), ("go", (0, 7))))
            with self.subTest(block=block):
                self.assertEqual((trail.beats, trail.shift), (steps.beats, steps.shift))
                self.assertEqual([spread(strewing) for strewing in trail.strewings()], steps.strewn())

    def test_nothing_is_run(self):
        for block in ((), (("repeat", 0, PUT),), (("repeat", 5, ()),), (("repeat", FAR, nested(4)),),
                      (("do", "a"), ("undo", "a")), (("repeat", 0, (("repeat", 5, PUT),)),)):
            self.assertEqual(told(run(block, 1, a=())), (1, 0, (0,), []))

    def test_only_puts_that_are_run(self):
        block = (("put", 1), ("repeat", 0, PUT), ("repeat", 5, (("repeat", 0, (("put", 2),)), ("put", 3))))
        self.assertEqual(run(block).strewings(), [(1, (0,), 0, ()), (3, (0,), 1, (((0,), 5, 1),))])


class Strewings(unittest.TestCase):
    def test_nested_loops(self):
        inner = (("repeat", 4, (("put", 1), ("go", (1,)))), ("go", (-3,)))
        self.assertEqual(told(run((("go", (7,)), ("repeat", 3, inner)))),
                         (1, 28, (10,), [(1, (7,), 1, (((1,), 3, 9), ((1,), 4, 2)))]))

    def test_a_loop_backwards(self):
        block = (("repeat", -3, (("put", 5), ("go", (2,)), ("put", 4))),)
        self.assertEqual(run(block).strewings(), [(-4, (0,), 0, (((-2,), 3, 3),)), (-5, (-2,), 2, (((-2,), 3, 3),))])

    def test_loops_of_one_round_are_no_loops(self):
        block = (("repeat", 1, (("repeat", -1, (("put", 5), ("go", (2,)))),)),)
        self.assertEqual(run(block).strewings(), [(-5, (-2,), 1, ())])

    def test_parts_and_their_reverses(self):
        trail = run((("do", "a"), ("undo", "a")), 1, a=(("put", 5), ("go", (2,)), ("repeat", 3, PUT + (("go", (1,)),))))
        self.assertEqual(told(trail), (1, 16, (0,), [
            (5, (0,), 0, ()), (1, (2,), 2, (((1,), 3, 2),)), (-1, (4,), 9, (((-1,), 3, 2),)), (-5, (0,), 15, ())]))

    def test_puts_of_zero_are_strewings(self):
        self.assertEqual(run((("put", 0), ("repeat", -2, (("put", 0),)))).strewings(),
                         [(0, (0,), 0, ()), (0, (0,), 1, (((0,), 2, 1),))])

    def test_the_list_is_new(self):
        trail = run((("put", 1), ("go", (1,)), ("put", 2)))
        trail.strewings().clear()
        self.assertEqual(len(trail.strewings()), 2)
        self.assertIsInstance(trail.strewings(), list)

    def test_far_loops(self):
        body = (("go", (0, 1)), ("repeat", -FAR, (("put", -2), ("go", (1, 0)))))
        trail = run((("repeat", FAR, body), ("put", 7)), 2)
        beats = 2 * FAR + 1
        self.assertEqual((trail.beats, trail.shift), (FAR * beats + 1, (-FAR * FAR, FAR)))
        self.assertEqual(trail.strewings(), [
            (2, (-1, 1), 2, (((-FAR, 1), FAR, beats), ((-1, 0), FAR, 2))), (7, (-FAR * FAR, FAR), FAR * beats, ())])

    def test_six_far_loops(self):
        block = (("go", (1,)), ("put", 1))
        for _ in range(6):
            block = (("repeat", FAR, block),)
        loops = tuple(((FAR ** power,), FAR, 2 * FAR ** power) for power in (5, 4, 3, 2, 1, 0))
        self.assertEqual(told(run(block)), (1, 2 * FAR ** 6, (FAR ** 6,), [(1, (1,), 1, loops)]))

    def test_long_chains_of_parts(self):
        names = "abcdefghijkl"
        blocks = {name: (("do", names[index + 1]),) * 60 for index, name in enumerate(names[:11])}
        trail = run((("undo", "a"),) * 60, 1, l=(("go", (1,)),) * 60, **blocks)
        self.assertEqual(told(trail), (1, 60 ** 13, (-60 ** 13,), []))


class Algebra(unittest.TestCase):
    """Products, reverses and repetitions against the blocks that they stand for."""

    def pairs(self):
        for dimension in (1, 2, 3):
            dice = Dice(5 * dimension)
            for _ in range(60):
                yield dimension, small_block(dice, dimension, 3, []), small_block(dice, dimension, 3, [])

    def test_products(self):
        for dimension, one, other in self.pairs():
            left, right = run(one, dimension), run(other, dimension)
            before = told(left), told(right)
            self.assertEqual(told(left * right), told(run(one + other, dimension)))
            self.assertEqual((told(left), told(right)), before)

    def test_reverses(self):
        for dimension, one, _ in self.pairs():
            trail = run(one, dimension)
            before = told(trail)
            self.assertEqual(told(-trail), told(run(reverse(one), dimension)))
            self.assertEqual(told(-(-trail)), before)
            self.assertEqual(told(trail), before)

    def test_repetitions(self):
        for dimension, one, _ in self.pairs():
            trail = run(one, dimension)
            before = told(trail)
            for times in (0, 1, -1, 2, -2, 5, -7, FAR, -FAR):
                self.assertEqual(told(trail.repeated(times)), told(run((("repeat", times, one),), dimension)))
            self.assertEqual(told(trail), before)

    def test_repetitions_beyond_the_bound_of_loops(self):
        step = Trail.put(1, 3) * Trail.go((2,))
        for times in (10 ** 59, 10 ** 5000):
            self.assertEqual(told(step.repeated(times)),
                             (1, 2 * times, (2 * times,), [(3, (0,), 0, (((2,), times, 2),))]))

    def test_repetitions_against_steps(self):
        for dimension, one, _ in self.pairs():
            for times in (-3, -2, -1, 0, 1, 2, 3):
                steps = Steps(dimension, {}, (("repeat", times, one),))
                trail = run(one, dimension).repeated(times)
                self.assertEqual([spread(strewing) for strewing in trail.strewings()], steps.strewn())

    def test_by_hand(self):
        step = Trail.put(1, 3) * Trail.go((2,))
        self.assertEqual(told(step), (1, 2, (2,), [(3, (0,), 0, ())]))
        self.assertEqual(told(-step), (1, 2, (-2,), [(-3, (-2,), 1, ())]))
        self.assertEqual(told(step.repeated(4)), (1, 8, (8,), [(3, (0,), 0, (((2,), 4, 2),))]))
        self.assertEqual(told(step.repeated(-4)), (1, 8, (-8,), [(-3, (-2,), 1, (((-2,), 4, 2),))]))
        self.assertEqual(told(step * step), (1, 4, (4,), [(3, (0,), 0, ()), (3, (2,), 2, ())]))
        self.assertEqual(told(step.repeated(0)), told(Trail.still(1)))
        self.assertEqual(told(Trail.still(1) * step), told(step * Trail.still(1)))

    def test_a_trail_and_its_reverse_leave_nothing(self):
        for dimension, one, _ in self.pairs():
            trail = run(one, dimension)
            both = trail * -trail
            self.assertEqual((both.beats, both.shift), (2 * trail.beats, (0,) * dimension))
            self.assertEqual(both.effect().total, 0)


class TooDeepTrails(unittest.TestCase):
    def test_six_loops(self):
        for levels in (4, 5, 6):
            self.assertEqual(len(deep(levels).strewings()[0][3]), levels)

    def test_a_seventh_loop(self):
        for trail in (deep(6), Trail.put(1, 5) * deep(6), deep(6) * Trail.put(1, 1), -deep(6)):
            for times in (2, -2, 3, FAR, -FAR):
                self.assertEqual(fields_of(trail.repeated, times), (TooDeep, 6))
            for times in (0, 1, -1):
                self.assertIsNone(fields_of(trail.repeated, times))
            self.assertEqual(told(trail.repeated(1)), told(trail))
            self.assertEqual(told(trail.repeated(-1)), told(-trail))
            self.assertEqual(told(trail.repeated(0)), told(Trail.still(1)))

    def test_loops_that_do_not_move_count(self):
        trail = Trail.put(1, 1)
        for _ in range(6):
            trail = trail.repeated(2)
        self.assertEqual(fields_of(trail.repeated, 2), (TooDeep, 6))

    def test_loops_of_one_round_do_not_count(self):
        trail = deep(3).repeated(1).repeated(-1).repeated(-1).repeated(1)
        self.assertIsNone(fields_of(trail.repeated(2).repeated(2).repeated, 2))
        self.assertEqual(fields_of(trail.repeated(2).repeated(2).repeated(2).repeated, 2), (TooDeep, 6))

    def test_trails_without_strewings_have_no_loops(self):
        trail = Trail.go((1,))
        for _ in range(9):
            trail = trail.repeated(10)
        self.assertEqual(told(trail), (1, 10 ** 9, (10 ** 9,), []))

    def test_a_failed_call_changes_nothing(self):
        trail = deep(6)
        before = told(trail)
        fields_of(trail.repeated, 2)
        self.assertEqual(told(trail), before)


class Errors(unittest.TestCase):
    parts = Parts(1, {"deep": nested(4), "puts": PUT * 31})

    def test_errors_of_check(self):
        for block, error in (((("put", 1), ("go", (1, 2))), (InvalidBlock, (1,))), (PUT * 61, (TooLong, 60)),
                             (PUT * 61 + ("",), (InvalidBlock, (61,))), ((("do", "x"),), (UnknownName, "x")),
                             ((("repeat", 0, (("undo", "y"),)),) + nested(7), (UnknownName, "y")),
                             (nested(7), (TooDeep, 6)), ((("repeat", 1, nested(2) + (("repeat", 1, (("repeat", 0, (
                                 ("do", "deep"),)),)),)),), (TooDeep, 6)),
                             ((("do", "puts"), ("do", "puts")) + nested(7), (TooDeep, 6)),
                             ((("do", "puts"), ("undo", "puts")), (TooMany, 60))):
            with self.subTest(block=block):
                self.assertEqual(fields_of(trail_of, self.parts, block), error)

    def test_blocks_at_the_limits(self):
        self.assertEqual(len(trail_of(self.parts, (("do", "puts"),) + PUT * 29).strewings()), 60)
        self.assertEqual(trail_of(self.parts, (("repeat", 2, (("repeat", 2, (("do", "deep"),)),)),)).beats, 0)

    def test_parameters_by_keyword(self):
        trail = trail_of(parts=self.parts, block=PUT)
        self.assertEqual(told(trail), told(Trail.put(dimension=1, number=1)))
        self.assertEqual(told(Trail.go(vector=(1,))), (1, 1, (1,), []))
        self.assertEqual(told(Trail.still(dimension=1)), told(trail.repeated(times=0)))
        self.assertEqual(trail.visits(place=(0,)), (1, 0, 0))


class Visits(unittest.TestCase):
    def test_puts_of_zero_count(self):
        trail = run((("put", 0), ("go", (1,)), ("repeat", 5, (("put", 0),)), ("go", (1,)), ("put", 3), ("put", -3)))
        self.assertEqual([trail.visits((place,)) for place in range(4)], [(1, 0, 0), (5, 2, 6), (2, 8, 9), NEVER])

    def test_places_where_nothing_is_put(self):
        self.assertEqual(run(()).visits((0,)), NEVER)
        self.assertEqual(run((("go", (1,)), ("go", (1,)))).visits((1,)), NEVER)
        trail = run((("repeat", FAR, (("put", 1), ("go", (2, 4)))),), 2)
        for place in ((1, 2), (2, 3), (-2, -4), (2 * FAR, 4 * FAR), (10 ** 900, 0)):
            self.assertEqual(trail.visits(place), NEVER)

    def test_far_lines(self):
        trail = run((("repeat", FAR, (("put", 1), ("go", (2,)))), ("repeat", -FAR, (("put", 1), ("go", (3,))))))
        last = 2 * (FAR - 1)
        for place in (0, 6, last):
            self.assertEqual(trail.visits((place,)), (1, place, place))
        # The second loop comes down from 2 * FAR in strides of 3, with the put behind the go.
        place = 2 * FAR - 3 * 10
        self.assertEqual(trail.visits((place,)), (2, place, 2 * FAR + 2 * 10 - 1))

    def test_rows_beside_one_another(self):
        row = (("repeat", FAR, (("put", 0), ("go", (1, 0)))), ("repeat", FAR, (("go", (-1, 0)),)), ("go", (0, 1)))
        trail = run((("repeat", FAR, row),), 2)
        self.assertEqual(trail.beats, FAR * (3 * FAR + 1))
        for x, y in ((0, 0), (5, 7), (FAR - 1, FAR - 1), (10 ** 25, 10 ** 13 + 1)):
            beat = y * (3 * FAR + 1) + 2 * x
            self.assertEqual(trail.visits((x, y)), (1, beat, beat))
        for place in ((-1, 0), (0, -1), (FAR, 0), (0, FAR)):
            self.assertEqual(trail.visits(place), NEVER)

    def test_rows_that_overlap(self):
        # Each row begins one place further than the one before and is FAR places long.
        row = (("repeat", FAR, (("put", 1), ("go", (1,)))), ("repeat", FAR, (("go", (-1,)),)), ("go", (1,)))
        trail = run((("repeat", FAR, row),))
        beats = 3 * FAR + 1
        for place in (0, 1, 10 ** 20, FAR - 1):
            self.assertEqual(trail.visits((place,)), (place + 1, 2 * place, place * beats))
        for beyond in (0, 1, 10 ** 20, FAR - 2):
            first = (beyond + 1) * beats + 2 * (FAR - 1)
            last = (FAR - 1) * beats + 2 * (beyond + 1)
            self.assertEqual(trail.visits((FAR + beyond,)), (FAR - 1 - beyond, first, last))

    def test_loops_that_do_not_move(self):
        body = (("go", (1,)), ("put", 1), ("put", 2), ("go", (-1,)))
        trail = run((("repeat", FAR, (("repeat", -FAR, body), ("put", 5))),))
        beats = 4 * FAR + 1
        self.assertEqual(trail.visits((1,)), (2 * FAR * FAR, 1, FAR * beats - 3))
        self.assertEqual(trail.visits((0,)), (FAR, beats - 1, FAR * beats - 1))

    def test_a_loop_that_does_not_move_between_others(self):
        line = (("repeat", 3, (("put", 1), ("go", (1,)))),)
        back = (("go", (-3,)),)
        block = (("repeat", 4, (("repeat", 5, line + back), ("go", (2,)))),)
        trail, steps = run(block), Steps(1, {}, block)
        for place in range(-2, 14):
            self.assertEqual(trail.visits((place,)), steps.visits((place,)))

    def test_one_loop_parted_in_two(self):
        row = (("repeat", FAR - 7, (("put", 1), ("go", (3, 1)))), ("go", (-10 ** 12, 5)), ("put", 2))
        for many in (1, 2, 10 ** 15, FAR - 1):
            front = run((("repeat", many, row),), 2)
            rest = run((("repeat", FAR - many, row),), 2)
            whole = run((("repeat", FAR, row),), 2)
            both = run((("repeat", many, row), ("repeat", FAR - many, row)), 2)
            for x, y in ((0, 0), (3, 1), (3 * 10 ** 15, 10 ** 15), whole.shift, front.shift):
                place = (x, y)
                moved = tuple(item - by for item, by in zip(place, front.shift))
                one, other = front.visits(place), rest.visits(moved)
                self.assertEqual(whole.visits(place), both.visits(place))
                self.assertEqual(whole.visits(place)[0], one[0] + other[0])
                beats = [beat for beat in one[1:] if beat is not None]
                beats += [beat + front.beats for beat in other[1:] if beat is not None]
                self.assertEqual(whole.visits(place)[1:], (min(beats, default=None), max(beats, default=None)))

    def test_places_of_another_kind(self):
        trail = run((("put", 1),), 2)
        for place in WRONG_PLACES:
            self.assertEqual(fields_of(trail.visits, place), (InvalidPlace, place))
        for dimension in (1, 2, 3):
            self.assertEqual(Trail.still(dimension).visits((5,) * dimension), NEVER)
            self.assertEqual(fields_of(Trail.still(dimension).visits, (5,) * (dimension + 1)),
                             (InvalidPlace, (5,) * (dimension + 1)))


class TangledTrails(unittest.TestCase):
    def looped(self, dimension, *vectors):
        """Return a trail with one put in loops with these strides, the first one innermost."""
        trail = Trail.put(dimension, 0)
        for vector in vectors:
            trail = (trail * Trail.go(vector)).repeated(3)
            trail = trail * Trail.go(tuple(-item for item in trail.shift))
        return trail

    def test_as_many_as_are_possible(self):
        for dimension, vectors in ((1, ((1,), (5,))), (2, ((1, 0), (0, 1), (1, 1))), (2, ((1, 0), (2, 0))),
                                   (3, ((1, 0, 0), (0, 1, 0), (0, 0, 1), (1, 2, 3))),
                                   (2, ((1, 0), (0, 0), (0, 1), (0, 0), (1, 1))), (1, ((0,),) * 6)):
            self.assertEqual(self.looped(dimension, *vectors).visits((0,) * dimension)[0] > 0, True)

    def test_one_more(self):
        for dimension, vectors in ((1, ((1,), (5,), (25,))), (2, ((1, 0), (0, 1), (1, 1), (5, 7))),
                                   (2, ((1, 2), (2, 4), (3, 6))), (3, ((1, 1, 0), (2, 2, 0), (3, 3, 0))),
                                   (3, ((1, 0, 0), (0, 1, 0), (1, 1, 0), (1, 2, 0))), (1, ((1,), (0,), (5,), (7,)))):
            trail = self.looped(dimension, *vectors)
            self.assertEqual(fields_of(trail.visits, (0,) * dimension), (Tangled, 0))
            self.assertEqual(fields_of(trail.visits, (10 ** 40,) * dimension), (Tangled, 0))

    def test_the_first_index(self):
        tangled = self.looped(1, (1,), (5,), (25,))
        free = self.looped(1, (1,), (5,))
        trail = Trail.put(1, 1) * free * tangled * free * tangled
        self.assertEqual(fields_of(trail.visits, (0,)), (Tangled, 2))
        self.assertEqual(fields_of((-trail).visits, (0,)), (Tangled, 0))
        self.assertEqual(fields_of((free * Trail.put(1, 2).repeated(5) * free * tangled).visits, (3,)), (Tangled, 3))

    def test_wrong_places_come_first(self):
        trail = self.looped(2, (1, 2), (2, 4), (3, 6))
        for place in WRONG_PLACES:
            self.assertEqual(fields_of(trail.visits, place), (InvalidPlace, place))

    def test_tangled_loops_can_be_strewn(self):
        trail = self.looped(1, (1,), (5,), (25,))
        self.assertEqual(len(trail.strewings()[0][3]), 3)


class Multiples(unittest.TestCase):
    def test_all_vectors_multiplied(self):
        for factor in (2, -1, -3, 10 ** 9):
            for dimension, blocks, block, trail, steps in programs(30, 11):
                parts = Parts(dimension, {name: scaled(factor, part) for name, part in blocks.items()})
                other = trail_of(parts, scaled(factor, block))
                self.assertEqual(other.beats, trail.beats)
                self.assertEqual(other.shift, tuple(factor * item for item in trail.shift))
                self.assertEqual(other.effect().total, trail.effect().total)
                if first_tangled([strewing[3] for strewing in trail.strewings()]) is None:
                    for place in steps.places()[:9]:
                        there = tuple(factor * item for item in place)
                        self.assertEqual(other.visits(there), trail.visits(place))
                        self.assertEqual(other.effect().amount(there), trail.effect().amount(place))

    def test_far_programs_multiplied(self):
        row = (("repeat", FAR, (("put", 4), ("go", (3, 1)))), ("go", (-10, 5)), ("put", 2))
        one = run((("repeat", -FAR, row),), 2)
        for factor in (2, -7, 10 ** 10):
            other = run((("repeat", -FAR, scaled(factor, row)),), 2)
            self.assertEqual((other.beats, other.shift), (one.beats, tuple(factor * item for item in one.shift)))
            for place in (one.strewings()[0][1], one.strewings()[1][1], one.shift, (0, 0)):
                there = tuple(factor * item for item in place)
                self.assertEqual(other.visits(there), one.visits(place))
                self.assertEqual(other.effect().amount(there), one.effect().amount(place))


if __name__ == "__main__":
    unittest.main()
