"""Points 3, 8, 9 and 12 and the section strewfar/effects.py."""

import unittest

from helpers import (Dice, Steps, effect_of, fields_of, first_tangled, going, heap_of, programs, scaled,
                     small_block)
from strewfar.blocks import reverse
from strewfar.effects import Effect
from strewfar.errors import InvalidPlace, Tangled, TooDeep
from strewfar.parts import Parts
from strewfar.trails import Trail, trail_of

FAR = 10 ** 30
WRONG_PLACES = ((), (1,), (1, 2, 3), (1, True), (False, 0), ("1", 2), (1, None), [1, 2], [0, 0], "12", 5, None)


def told(effect):
    """Return all that an effect tells of itself."""
    return effect.dimension, effect.shift, effect.total, effect.terms()


def moved_heap(heap, vector, factor=1):
    return {tuple(item + by for item, by in zip(place, vector)): factor * count for place, count in heap.items()}


def sum_of_heaps(*heaps):
    places = {place for heap in heaps for place in heap}
    counts = {place: sum(heap.get(place, 0) for heap in heaps) for place in places}
    return {place: count for place, count in counts.items() if count != 0}


def opposite(vector):
    return tuple(-item for item in vector)


def replaced(strewing):
    """Return the term of a strewing: its loops are replaced one after the other, as the document says."""
    number, place, _, loops = strewing
    kept = []
    for stride, times, _ in loops:
        first = ([item for item in stride if item != 0] or [0])[0]
        if first == 0:
            number *= times
        elif first > 0:
            kept.append((stride, times))
        else:
            place = tuple(item + (times - 1) * by for item, by in zip(place, stride))
            kept.append((opposite(stride), times))
    return number, place, tuple(kept)


class Simple(unittest.TestCase):
    def test_still(self):
        for dimension in (1, 2, 3):
            self.assertEqual(told(Effect.still(dimension)), (dimension, (0,) * dimension, 0, []))

    def test_mark(self):
        for place in ((5,), (0,), (-1, 2), (1, -2, 3), (10 ** 700, 0)):
            for number in (1, -5, 10 ** 59):
                effect = Effect.mark(place, number)
                self.assertEqual(told(effect), (len(place), (0,) * len(place), number, [(number, place, ())]))
                self.assertEqual(effect.amount(place), number)

    def test_mark_with_the_number_zero(self):
        self.assertEqual(told(Effect.mark((3, 4), 0)), (2, (0, 0), 0, []))
        self.assertEqual(Effect.mark((3, 4), 0).amount((3, 4)), 0)

    def test_the_list_is_new(self):
        effect = Effect.mark((1,), 2) * Effect.mark((3,), 4)
        effect.terms().clear()
        self.assertEqual(len(effect.terms()), 2)
        self.assertIsInstance(effect.terms(), list)

    def test_parameters_by_keyword(self):
        self.assertEqual(told(Effect.still(dimension=2)), told(Effect.mark(place=(1, 2), number=0)))
        effect = Effect.mark((1,), 2)
        self.assertEqual((effect.amount(place=(1,)), effect.power(times=3).total), (2, 6))
        self.assertEqual(effect.moved(vector=(4,)).terms(), [(2, (5,), ())])

    def test_static_methods_of_objects(self):
        self.assertEqual(told(Effect.still(1).mark((1, 2), 3)), told(Effect.mark((1, 2), 3)))


class OfTrails(unittest.TestCase):
    def test_shift_terms_and_total_step_by_step(self):
        for _, blocks, block, trail, steps in programs(200, 40, 4):
            effect = trail.effect()
            counts = {}
            for _, place, number, _ in steps.puts:
                counts[place] = counts.get(place, 0) + number
            with self.subTest(blocks=blocks, block=block):
                self.assertEqual((effect.shift, effect.dimension), (steps.shift, len(steps.shift)))
                self.assertEqual(effect.total, sum(number for _, _, number, _ in steps.puts))
                self.assertEqual(heap_of(effect.terms()), {place: counts[place] for place in counts if counts[place]})

    def test_terms_in_order(self):
        for _, blocks, block, trail, _ in programs(200, 90, 4):
            with self.subTest(blocks=blocks, block=block):
                expected = [replaced(strewing) for strewing in trail.strewings() if strewing[0] != 0]
                self.assertEqual(trail.effect().terms(), expected)

    def test_amounts_step_by_step(self):
        seen = {"tangled": 0, "none": 0, "some": 0}
        for _, blocks, block, trail, steps in programs(120, 60):
            effect = trail.effect()
            index = first_tangled([term[2] for term in effect.terms()])
            for place in [*steps.places()[:40], tuple(item - 10 ** 6 for item in steps.shift)]:
                with self.subTest(blocks=blocks, block=block, place=place):
                    if index is None:
                        amount = effect.amount(place)
                        self.assertEqual(amount, steps.amount(place))
                        seen["some" if amount else "none"] += 1
                    else:
                        self.assertEqual(fields_of(effect.amount, place), (Tangled, index))
                        seen["tangled"] += 1
        self.assertGreater(min(seen.values()), 200)

    def test_an_example(self):
        inner = (("repeat", 4, (("put", 1), ("go", (1,)))), ("go", (-3,)))
        effect = effect_of((("repeat", 3, inner),))
        self.assertEqual(told(effect), (1, (3,), 12, [(1, (0,), (((1,), 3), ((1,), 4)))]))
        self.assertEqual([effect.amount((place,)) for place in range(-1, 7)], [0, 1, 2, 3, 3, 2, 1, 0])

    def test_a_stride_that_is_the_origin(self):
        body = (("put", 5), ("go", (3,)), ("put", 4), ("go", (-3,)))
        effect = effect_of((("repeat", FAR, (("repeat", -7, body), ("go", (1,)))),))
        self.assertEqual(told(effect), (1, (FAR,), -63 * FAR, [
            (-28, (3,), (((1,), FAR),)), (-35, (0,), (((1,), FAR),))]))

    def test_a_stride_that_is_not_forward(self):
        effect = effect_of((("repeat", 4, (("put", 5), ("go", (-3,)))),))
        self.assertEqual(told(effect), (1, (-12,), 20, [(5, (-9,), (((3,), 4),))]))
        effect = effect_of((("repeat", 5, (("repeat", 4, (("put", 5), ("go", (0, -3)))), ("go", (-1, 20)))),), 2)
        self.assertEqual(told(effect), (2, (-5, 40), 100, [(5, (-4, 23), (((1, -8), 5), ((0, 3), 4)))]))

    def test_forward_strides_stay(self):
        effect = effect_of((("repeat", 4, (("put", 5), ("go", (0, 1, -9)))),), 3)
        self.assertEqual(effect.terms(), [(5, (0, 0, 0), (((0, 1, -9), 4),))])

    def test_puts_of_zero_have_no_terms(self):
        effect = effect_of((("put", 0), ("repeat", 5, (("put", 0), ("put", 2), ("go", (1,)), ("put", 0)))))
        self.assertEqual(effect.terms(), [(2, (0,), (((1,), 5),))])
        self.assertEqual(told(effect_of((("put", 0), ("go", (2,)), ("put", 0)))), (1, (2,), 0, []))

    def test_a_loop_in_a_loop_both_replaced(self):
        block = (("repeat", -2, (("repeat", 3, (("put", 1), ("go", (-1, 4)))), ("go", (7, 0)))),)
        effect, steps = effect_of(block, 2), Steps(2, {}, block)
        self.assertEqual(effect.terms(), [(-1, (-10, -16), (((4, 12), 2), ((1, -4), 3)))])
        self.assertEqual(heap_of(effect.terms()), {place: -1 for _, place, _, _ in steps.puts})


class Amounts(unittest.TestCase):
    def test_far_programs(self):
        # Round k puts 3 at 2 * k and then 1 at each place from 2 * k down to 2 * k - FAR + 1.
        line = (("repeat", FAR, (("put", 1), ("go", (-1,)))), ("repeat", FAR, (("go", (1,)),)))
        effect = effect_of((("repeat", FAR, (("put", 3), *line, ("go", (2,)))),))
        self.assertEqual((effect.shift, effect.total), ((2 * FAR,), FAR * (FAR + 3)))
        for place, amount in ((0, 3 + FAR // 2), (1, FAR // 2), (-1, FAR // 2), (-2, FAR // 2 - 1),
                              (1 - FAR, 1), (-FAR, 0), (2 - FAR, 1), (3 - FAR, 2), (2 * FAR - 2, 4), (2 * FAR - 3, 1),
                              (2 * FAR - 4, 5), (2 * FAR - 1, 0), (2 * FAR, 0)):
            self.assertEqual(effect.amount((place,)), amount)

    def test_rows_beside_one_another(self):
        row = (("repeat", FAR, (("put", 4), ("go", (1, 0)))), ("repeat", FAR, (("go", (-1, 0)),)), ("go", (0, 1)))
        effect = effect_of((("repeat", FAR, row), ("put", -9)), 2)
        for place in ((0, 0), (10 ** 20, 3), (FAR - 1, FAR - 1), (0, FAR - 1)):
            self.assertEqual(effect.amount(place), 4)
        for place in ((-1, 0), (0, -1), (FAR, 0), (5, FAR), (10 ** 100, 10 ** 100)):
            self.assertEqual(effect.amount(place), 0)
        self.assertEqual((effect.amount((0, FAR)), effect.total), (-9, 4 * FAR * FAR - 9))

    def test_rows_that_overlap(self):
        row = (("repeat", FAR, (("put", 2), ("go", (1,)))), ("repeat", FAR, (("go", (-1,)),)), ("go", (1,)))
        effect = effect_of((("repeat", FAR, row),))
        for place in (0, 1, 10 ** 20, FAR - 1):
            self.assertEqual(effect.amount((place,)), 2 * (place + 1))
            self.assertEqual(effect.amount((2 * FAR - 2 - place,)), 2 * (place + 1))

    def test_the_count_of_a_whole_is_that_of_its_parts(self):
        row = (("repeat", FAR - 7, (("put", 1), ("go", (3, 1)))), ("go", (-10 ** 12, 5)), ("put", 2))
        whole = effect_of((("repeat", -FAR, row),), 2)
        for many in (1, 2, 10 ** 15, FAR - 1):
            front = effect_of((("repeat", -many, row),), 2)
            rest = effect_of((("repeat", many - FAR, row),), 2)
            self.assertEqual(((front * rest).shift, (front * rest).total), (whole.shift, whole.total))
            places = [whole.shift, front.shift, (0, 0), (0, -5), (10 ** 12, -5)]
            places += [term[1] for term in [*whole.terms(), *front.terms()]]
            for place in places:
                moved = tuple(item - by for item, by in zip(place, front.shift))
                self.assertEqual(whole.amount(place), front.amount(place) + rest.amount(moved))
                self.assertEqual(whole.amount(place), (front * rest).amount(place))

    def test_a_program_and_its_reverse_leave_nothing(self):
        row = (("repeat", FAR, (("put", 1), ("go", (3, 1)))), ("go", (-10 ** 12, 5)), ("put", 2))
        block = (("repeat", -FAR, row), ("put", 6))
        one = effect_of(block, 2)
        places = [(0, 0), one.shift, (10 ** 12, -5), *[term[1] for term in one.terms()]]
        self.assertGreater(len([place for place in places if one.amount(place) != 0]), 2)
        twice = (("do", "a"), ("undo", "a"))
        for both in (one * -one, effect_of(block + reverse(block), 2), effect_of(twice, 2, a=block)):
            self.assertEqual((both.shift, both.total), ((0, 0), 0))
            self.assertEqual([both.amount(place) for place in places], [0] * len(places))

    def test_places_of_another_kind(self):
        for effect in (Effect.still(2), Effect.mark((1, 2), 3), going(1, 2)):
            for place in WRONG_PLACES:
                self.assertEqual(fields_of(effect.amount, place), (InvalidPlace, place))
        for dimension in (1, 2, 3):
            self.assertEqual(fields_of(Effect.still(dimension).amount, (5,) * (dimension + 1)),
                             (InvalidPlace, (5,) * (dimension + 1)))


class TangledEffects(unittest.TestCase):
    def looped(self, *vectors):
        """Return the effect of marking the origin, in loops with these strides."""
        effect = Effect.mark((0,) * len(vectors[0]), 1)
        for vector in vectors:
            effect = (effect * going(*vector)).power(3)
            effect = effect * going(*opposite(effect.shift))
        return effect

    def test_as_many_as_are_possible(self):
        for vectors in (((1,), (5,)), ((1, 0), (0, 1), (1, 1)), ((1, 0), (2, 0)), ((1, 2), (0, 0), (2, 4)),
                        ((1, 0, 0), (0, 1, 0), (0, 0, 1), (1, 2, 3)), ((1,), (0,), (0,), (5,), (0,))):
            self.assertGreater(self.looped(*vectors).amount((0,) * len(vectors[0])), 0)

    def test_one_more(self):
        for vectors in (((1,), (5,), (25,)), ((1, 0), (0, 1), (1, 1), (5, 7)), ((1, 2), (2, 4), (3, 6)),
                        ((1, 1, 0), (2, 2, 0), (3, 3, 0)), ((1, 0, 0), (0, 1, 0), (1, 1, 0), (1, 2, 0)),
                        ((1,), (0,), (-5,), (7,))):
            effect = self.looped(*vectors)
            for place in ((0,) * len(vectors[0]), (10 ** 40,) * len(vectors[0])):
                self.assertEqual(fields_of(effect.amount, place), (Tangled, 0))

    def test_the_first_index(self):
        tangled, free = self.looped((1,), (5,), (25,)), self.looped((1,), (5,))
        self.assertEqual(fields_of((free * Effect.mark((1,), 3) * tangled * free * tangled).amount, (0,)), (Tangled, 2))
        self.assertEqual(fields_of(free.merged(free, tangled, tangled).amount, (0,)), (Tangled, 2))
        self.assertEqual(fields_of((free * Effect.mark((1,), 0) * tangled).amount, (0,)), (Tangled, 1))

    def test_the_index_is_that_of_the_term(self):
        block = (("repeat", 3, (("repeat", 3, (("repeat", 3, (("put", 0), ("put", 1), ("go", (1,)))), ("go", (1,)))),
                                ("go", (1,)))),)
        trail = trail_of(Parts.empty(1), (("put", 0), ("put", 5)) + block)
        self.assertEqual(fields_of(trail.visits, (0,)), (Tangled, 2))
        self.assertEqual(fields_of(trail.effect().amount, (0,)), (Tangled, 1))

    def test_wrong_places_come_first(self):
        effect = self.looped((1, 2), (2, 4), (3, 6))
        for place in WRONG_PLACES:
            self.assertEqual(fields_of(effect.amount, place), (InvalidPlace, place))

    def test_tangled_effects_have_a_total(self):
        self.assertEqual(self.looped((1,), (5,), (25,)).total, 27)


class Algebra(unittest.TestCase):
    """Products, reverses and powers against the heaps of the programs that they stand for."""

    def pairs(self):
        for dimension in (1, 2, 3):
            dice = Dice(8 * dimension)
            for _ in range(60):
                yield dimension, small_block(dice, dimension, 2, []), small_block(dice, dimension, 2, [])

    def test_products(self):
        for dimension, left, right in self.pairs():
            one, other = effect_of(left, dimension), effect_of(right, dimension)
            before = told(one), told(other)
            both = one * other
            later = [(number, tuple(item + by for item, by in zip(place, one.shift)), loops)
                     for number, place, loops in other.terms()]
            self.assertEqual(both.terms(), one.terms() + later)
            self.assertEqual(told(both), told(effect_of(left + right, dimension)))
            self.assertEqual((told(one), told(other)), before)

    def test_reverses(self):
        for dimension, left, _ in self.pairs():
            one = effect_of(left, dimension)
            before = told(one)
            back = opposite(one.shift)
            expected = [(-number, tuple(item + by for item, by in zip(place, back)), loops)
                        for number, place, loops in one.terms()]
            self.assertEqual(told(-one), (dimension, back, -one.total, expected))
            program = effect_of(reverse(left), dimension)
            self.assertEqual((heap_of((-one).terms()), (-one).shift), (heap_of(program.terms()), program.shift))
            self.assertEqual(told(-(-one)), before)
            self.assertEqual(told(one), before)
            self.assertEqual(heap_of((one * -one).terms()), {})

    def test_powers(self):
        for dimension, left, _ in self.pairs():
            one = effect_of(left, dimension)
            before = told(one)
            for times in (-3, -2, -1, 0, 1, 2, 3, 5):
                power = one.power(times)
                program = effect_of((("repeat", times, left),), dimension)
                self.assertEqual((power.shift, power.total), (program.shift, program.total))
                self.assertEqual(heap_of(power.terms()), heap_of(program.terms()))
            self.assertEqual(told(one), before)

    def test_powers_of_the_exact_form(self):
        for dimension, left, _ in self.pairs():
            one = effect_of(left, dimension)
            self.assertEqual(told(one.power(1)), told(one))
            self.assertEqual(told(one.power(-1)), told(-one))
            self.assertEqual(told(one.power(0)), told(Effect.still(dimension)))
            for times in (2, 9, FAR):
                self.assertEqual(told(one.power(times)), told(effect_of((("repeat", times, left),), dimension)))
                self.assertEqual(told(one.power(-times)), told((-one).power(times)))

    def test_by_hand(self):
        one = Effect.mark((1,), 3) * going(2)
        self.assertEqual(told(one), (1, (2,), 3, [(3, (1,), ())]))
        self.assertEqual(told(-one), (1, (-2,), -3, [(-3, (-1,), ())]))
        self.assertEqual(told(one.power(4)), (1, (8,), 12, [(3, (1,), (((2,), 4),))]))
        self.assertEqual(told(one.power(-4)), (1, (-8,), -12, [(-3, (-7,), (((2,), 4),))]))
        self.assertEqual(told(one * one), (1, (4,), 6, [(3, (1,), ()), (3, (3,), ())]))
        self.assertEqual(told(one.power(3).power(FAR)), (1, (6 * FAR,), 9 * FAR, [(3, (1,), (((6,), FAR), ((2,), 3)))]))
        self.assertEqual(told((-one).power(2)), (1, (-4,), -6, [(-3, (-3,), (((2,), 2),))]))

    def test_powers_without_a_shift(self):
        one = Effect.mark((1, 2), 3) * Effect.mark((0, 0), -1)
        for times in (2, 7, FAR, 10 ** 59):
            self.assertEqual(told(one.power(times)),
                             (2, (0, 0), 2 * times, [(3 * times, (1, 2), ()), (-times, (0, 0), ())]))
            self.assertEqual(told(one.power(-times)),
                             (2, (0, 0), -2 * times, [(-3 * times, (1, 2), ()), (times, (0, 0), ())]))

    def test_powers_with_a_shift_that_is_not_forward(self):
        one = Effect.mark((1, 2), 3) * going(0, -5)
        self.assertEqual(told(one.power(10)), (2, (0, -50), 30, [(3, (1, -43), (((0, 5), 10),))]))
        self.assertEqual(told(one.power(-10)), (2, (0, 50), -30, [(-3, (1, 7), (((0, 5), 10),))]))


class TooDeepEffects(unittest.TestCase):
    def deep(self, levels):
        effect = Effect.mark((0,), 1)
        for _ in range(levels):
            effect = (effect * going(1)).power(2)
        return effect

    def test_six_loops(self):
        for levels in (4, 5, 6):
            self.assertEqual(len(self.deep(levels).terms()[0][2]), levels)

    def test_a_seventh_loop(self):
        for effect in (self.deep(6), Effect.mark((1,), 1) * self.deep(6), self.deep(6) * Effect.mark((1,), 1),
                       -self.deep(6)):
            for times in (2, -2, 3, FAR, -FAR):
                self.assertEqual(fields_of(effect.power, times), (TooDeep, 6))
            for times in (0, 1, -1):
                self.assertIsNone(fields_of(effect.power, times))
            before = told(effect)
            fields_of(effect.power, 2)
            self.assertEqual(told(effect), before)

    def test_powers_without_a_shift_add_no_loop(self):
        effect = self.deep(6)
        effect = effect * going(*opposite(effect.shift))
        self.assertEqual(told(effect.power(5)), (1, (0,), 5 * 2 ** 6, [(5, *effect.terms()[0][1:])]))
        self.assertIsNone(fields_of(effect.power, -2))

    def test_effects_without_terms_have_no_loops(self):
        effect = going(1)
        for _ in range(9):
            effect = effect.power(-10)
        self.assertEqual(told(effect), (1, (-10 ** 9,), 0, []))

    def test_trails_may_have_more_loops_than_their_effects(self):
        trail = Trail.put(1, 3)
        for _ in range(6):
            trail = trail.repeated(2)
        self.assertEqual(told(trail.effect().power(2)), (1, (0,), 3 * 2 ** 7, [(3 * 2 ** 7, (0,), ())]))


class MovedAndMerged(unittest.TestCase):
    def test_moved(self):
        for dimension, blocks, block, trail, _ in programs(30, 7):
            effect = trail.effect()
            before = told(effect)
            for vector in ((0,) * dimension, (5,) * dimension, (-10 ** 40,) * dimension):
                moved = effect.moved(vector)
                self.assertEqual((moved.shift, moved.total), (effect.shift, effect.total))
                self.assertEqual(heap_of(moved.terms()), moved_heap(heap_of(effect.terms()), vector))
                self.assertEqual([term[0] for term in moved.terms()], [term[0] for term in effect.terms()])
            self.assertEqual(told(effect), before)

    def test_moved_by_hand(self):
        effect = (Effect.mark((1, 2), 3) * going(4, 5)).power(6)
        self.assertEqual(told(effect.moved((10, -10))), (2, (24, 30), 18, [(3, (11, -8), (((4, 5), 6),))]))
        self.assertEqual(effect.moved((10, -10)).amount((15, -3)), 3)

    def test_merged(self):
        one = Effect.mark((1,), 3) * going(2)
        two = (Effect.mark((1,), 4) * going(-1)).power(5)
        three = going(7)
        four = Effect.mark((9,), -3)
        for others in ((), (two,), (two, three), (two, three, four), (four, one), (one, one, one)):
            merged = one.merged(*others)
            terms = [term for effect in (one, *others) for term in effect.terms()]
            total = sum(effect.total for effect in (one, *others))
            self.assertEqual(told(merged), (1, (0,), total, terms))
            self.assertEqual(heap_of(merged.terms()), sum_of_heaps(*[heap_of([term]) for term in terms]))
        self.assertEqual(told(one), (1, (2,), 3, [(3, (1,), ())]))
        self.assertEqual(two.shift, (-5,))

    def test_merged_programs(self):
        for dimension, _, _, trail, _ in programs(20, 3):
            effect = trail.effect()
            other = effect.moved((1,) * dimension)
            merged = effect.merged(other, -effect)
            self.assertEqual(merged.shift, (0,) * dimension)
            self.assertEqual(merged.terms(), effect.terms() + other.terms() + (-effect).terms())


class Multiples(unittest.TestCase):
    def test_all_vectors_multiplied(self):
        for factor in (3, -1, -2, 10 ** 10):
            for dimension, blocks, block, trail, steps in programs(30, 25):
                parts = Parts(dimension, {name: scaled(factor, part) for name, part in blocks.items()})
                one, other = trail.effect(), trail_of(parts, scaled(factor, block)).effect()
                self.assertEqual(other.total, one.total)
                self.assertEqual(other.shift, tuple(factor * item for item in one.shift))
                heap = heap_of(one.terms())
                expected = {tuple(factor * item for item in place): heap[place] for place in heap}
                self.assertEqual(heap_of(other.terms()), expected)


if __name__ == "__main__":
    unittest.main()
