"""Points 8 to 11 and the section strewfar/compare.py."""

import unittest

from helpers import (Dice, Steps, counts_of, effect_of, far_block, fields_of, going, heap_of, loads, moved, nested,
                     otherwise, programs, small_block)
from strewfar.blocks import reverse
from strewfar.compare import commute, difference, exponent, same
from strewfar.effects import Effect
from strewfar.errors import InvalidCount, Overload, TooDeep, TooMany
from strewfar.parts import Parts
from strewfar.trails import trail_of

FAR = 10 ** 30
PUT = (("put", 1),)
MODULI = (0, 2, 3, 5, 7, 10 ** 6)


def told(effect):
    return effect.shift, effect.terms()


def gap(heap, other, modulo=0):
    """Return what difference returns for two heaps that are laid out."""
    found = counts_of([*heap.items(), *[(place, -count) for place, count in other.items()]])
    if modulo:
        found = {place: count % modulo for place, count in found.items() if count % modulo}
    return ((min(found), found[min(found)]), (max(found), found[max(found)])) if found else None


def strewn(dimension, blocks, block):
    """Return the shift and the heap of a block by running it step by step."""
    steps = Steps(dimension, blocks, block)
    return steps.shift, counts_of([(place, number) for _, place, number, _ in steps.puts])


def swapped(pair):
    """Return what difference returns if the effects change places."""
    return pair and tuple((place, -amount) for place, amount in pair)


def marks(many):
    """Return an effect with so many terms, none at the origin."""
    return Effect.still(1).merged(*[Effect.mark((place + 1,), 1) for place in range(many)])


def loaded(*vectors):
    """Return the effect of a mark at the origin in loops with these strides, with the shift of the origin."""
    effect = Effect.mark((0,) * len(vectors[0]), 1)
    for vector in vectors:
        effect = (effect * going(*vector)).power(2)
        effect = effect * going(*[-item for item in effect.shift])
    return effect


def far_pairs(many, seed):
    """Yield a dimension, parts, a far block and its effect, if it may be compared with itself written otherwise."""
    for dimension in (1, 2, 3):
        dice = Dice(seed + dimension)
        for _ in range(many):
            parts = Parts(dimension, {"a": far_block(dice, dimension, 1)})
            block = far_block(dice, dimension, 2, ["a"])
            if fields_of(parts.check, block) is None:
                yield dice, dimension, parts, block, trail_of(parts, block).effect()


class StepByStep(unittest.TestCase):
    """Small programs against running them step by step."""

    def test_programs_of_their_own(self):
        found = {True: 0, False: 0}
        last = {}
        for dimension, blocks, block, trail, steps in programs(150, 900, 4):
            effect, heap = trail.effect(), counts_of([(place, number) for _, place, number, _ in steps.puts])
            if steps.beats > 300:
                continue
            other, other_heap = last.get(dimension, (effect, heap))
            last[dimension] = effect, heap
            for modulo in MODULI:
                if fields_of(difference, effect, other, modulo=modulo) is None:
                    expected = gap(heap, other_heap, modulo)
                    self.assertEqual(difference(effect, other, modulo=modulo), expected)
                    found[expected is None] += 1
            if fields_of(same, effect, other) is None:
                self.assertEqual(same(effect, other), effect.shift == other.shift and heap == other_heap)
        self.assertGreater(min(found.values()), 200)

    def test_a_put_more(self):
        dice = Dice(77)
        for dimension, blocks, block, trail, steps in programs(60, 40, 3):
            at, number = dice.roll(len(block) + 1), 1 + dice.roll(6)
            more = block[:at] + (("put", number),) + block[at:]
            one, other = trail.effect(), effect_of(more, dimension, **blocks)
            place = effect_of(block[:at], dimension, **blocks).shift
            if fields_of(same, one, other) is None:
                self.assertEqual(difference(other, one), ((place, number), (place, number)))
                self.assertEqual(difference(one, other), ((place, -number), (place, -number)))
                self.assertFalse(same(one, other))
                for modulo in (2, 3, 10 ** 6):
                    amount = -number % modulo
                    expected = ((place, amount), (place, amount)) if amount else None
                    self.assertEqual(difference(one, other, modulo=modulo), expected)

    def test_a_block_and_its_reverse_put_in(self):
        dice = Dice(3)
        for dimension, blocks, block, trail, _ in programs(60, 60, 3):
            at, extra = dice.roll(len(block) + 1), small_block(dice, dimension, 2, ["a", "b"])
            more = block[:at] + extra + reverse(extra) + block[at:]
            one, other = trail.effect(), effect_of(more, dimension, **blocks)
            if fields_of(same, one, other) is None:
                self.assertTrue(same(one, other))
                for modulo in MODULI:
                    self.assertIsNone(difference(one, other, modulo=modulo))

    def test_statement_by_statement(self):
        for dimension, blocks, block, trail, steps in programs(80, 31, 3):
            plain, place = (), (0,) * dimension
            for _, there, number, _ in steps.puts:
                plain += (("go", tuple(item - by for item, by in zip(there, place))), ("put", number))
                place = there
            plain += (("go", tuple(item - by for item, by in zip(steps.shift, place))),)
            one, other = trail.effect(), Effect.still(dimension)
            for word, given in plain:
                other = other * (going(*given) if word == "go" else Effect.mark((0,) * dimension, given))
            if fields_of(same, one, other) is None:
                self.assertTrue(same(one, other))
                self.assertFalse(same(one, other * Effect.mark((0,) * dimension, 1)))

    def test_queries_change_nothing(self):
        one, other = effect_of((("repeat", 5, PUT + (("go", (2,)),)),)), effect_of((("repeat", -5, PUT),))
        before = told(one), told(other)
        for query in (difference, same, commute, exponent):
            query(one, other)
            query(one=other, other=one)
        self.assertEqual((told(one), told(other)), before)


class FarPrograms(unittest.TestCase):
    def test_programs_written_otherwise(self):
        compared = 0
        for dice, dimension, parts, block, one in far_pairs(60, 1):
            other = block
            for _ in range(1 + dice.roll(4)):
                other = otherwise(dice, other)
            if fields_of(parts.check, other) is not None:
                continue
            two = trail_of(parts, other).effect()
            if fields_of(same, one, two) is not None:
                continue
            compared += 1
            with self.subTest(block=block, other=other):
                self.assertTrue(same(one, two))
                self.assertIsNone(difference(one, two, modulo=2))
                at, number = dice.roll(len(block) + 1), 2 * dice.roll(50) + 1
                place = trail_of(parts, block[:at]).shift
                more = trail_of(parts, block[:at] + (("put", number),) + block[at:]).effect()
                self.assertEqual(difference(more, two), ((place, number), (place, number)))
                self.assertEqual(difference(two, more, modulo=2), ((place, 1), (place, 1)))
                self.assertFalse(same(more, two))
        self.assertGreater(compared, 80)

    def test_a_loop_in_many_ways(self):
        body = (("put", 3), ("go", (2,)), ("put", -1), ("go", (-5,)))
        one = effect_of((("repeat", FAR, body),))
        ways = ((("repeat", 10 ** 17, body), ("repeat", FAR - 10 ** 17, body)), (("repeat", -FAR, reverse(body)),),
                (("repeat", 10 ** 10, (("repeat", 10 ** 20, body),)),),
                (*body[:1], ("repeat", FAR - 1, body[1:] + body[:1]), *body[1:]),
                (("repeat", FAR, (("put", 1), ("put", 2)) + body[1:]),),
                (("repeat", FAR, body[:1] + (("go", (7,)), ("go", (-5,))) + body[2:]),),
                (("repeat", FAR // 2, body + body),), (("do", "a"), ("undo", "a"), ("do", "a")))
        for way in ways:
            with self.subTest(way=way):
                self.assertTrue(same(one, effect_of(way, a=(("repeat", FAR, body),))))
                self.assertFalse(same(one, effect_of(way + (("put", 1),), a=(("repeat", FAR, body),))))

    def test_a_row_put_in_far_away(self):
        far = 10 ** 45
        base = (("repeat", FAR, (("put", 2), ("go", (3, 1)))), ("put", 5), ("repeat", FAR, (("go", (-3, -1)),)))
        for vector, first in (((1, 0), 0), ((0, 2), 0), ((0, -2), -2), ((-4, 7), -4), ((0, 0), 0)):
            row = (("repeat", FAR, (("put", 6), ("go", vector))),)
            one = effect_of(base, 2)
            two = one.merged(effect_of(row, 2).moved((far, -far)))
            ends = sorted([(far, -far), moved((far, -far), tuple((FAR - 1) * item for item in vector))])
            amount = 6 * FAR if vector == (0, 0) else 6
            expected = ((ends[0], amount), (ends[1], amount))
            self.assertEqual(difference(two, one.merged()), expected)
            self.assertEqual(difference(one.merged(), two), swapped(expected))
            for modulo in (2, 3, 6):
                self.assertIsNone(difference(two, one, modulo=modulo))
            if vector != (0, 0):
                self.assertEqual(difference(two, one, modulo=4), ((ends[0], 2), (ends[1], 2)))
                self.assertEqual(difference(one, two, modulo=7), ((ends[0], 1), (ends[1], 1)))

    def test_many_rows_have_a_first_and_a_last_place(self):
        body = (("put", 7), ("go", (0, 1)))
        for _ in range(3):
            body = (("repeat", FAR, body), ("go", (1, -5)))
        effect = effect_of(body, 2)
        found = difference(effect, Effect.still(2))
        # The innermost rows stand beside one another; the first one begins at the origin, where only one of them does.
        self.assertEqual(found[0], ((0, 0), 7))
        last = effect.terms()[0][1]
        for stride, times in effect.terms()[0][2]:
            last = moved(last, tuple((times - 1) * item for item in stride))
        self.assertEqual(found[1], (last, 7))

    def test_rows_that_overlap(self):
        row = (("repeat", FAR, (("put", 1), ("go", (1,)))), ("repeat", FAR, (("go", (-1,)),)), ("go", (1,)))
        square = effect_of((("repeat", FAR, row),))
        self.assertEqual(difference(square, Effect.still(1)), (((0,), 1), ((2 * FAR - 2,), 1)))
        self.assertEqual(difference(square, square.moved((1,))), (((0,), 1), ((2 * FAR - 1,), -1)))
        middle = Effect.mark((FAR - 1,), FAR)
        self.assertEqual(difference(square.merged(middle), square), (((FAR - 1,), FAR), ((FAR - 1,), FAR)))

    def test_only_part_of_a_row_differs(self):
        row = effect_of((("repeat", FAR, (("put", 5), ("go", (1,)))),))
        short = effect_of((("repeat", FAR - 3, (("put", 5), ("go", (1,)))),))
        self.assertEqual(difference(row, short), (((FAR - 3,), 5), ((FAR - 1,), 5)))
        gaps = effect_of((("repeat", FAR // 2, (("put", 5), ("go", (2,)))),))
        self.assertEqual(difference(gaps, row), (((1,), -5), ((FAR - 1,), -5)))
        self.assertEqual(difference(gaps, row, modulo=3), (((1,), 1), ((FAR - 1,), 1)))
        self.assertIsNone(difference(gaps, row, modulo=5))


class Effects(unittest.TestCase):
    """Effects that are made without programs."""

    def test_effects_that_cancel(self):
        for dimension, _, _, trail, _ in programs(40, 15, 3):
            effect = trail.effect()
            if fields_of(same, effect * -effect, Effect.still(dimension)) is None:
                self.assertTrue(same(effect * -effect, Effect.still(dimension)))
                self.assertTrue(same(-effect * effect, Effect.still(dimension)))
                self.assertTrue(same(-(-effect), effect))

    def test_powers(self):
        for dimension, _, _, trail, _ in programs(40, 16, 2):
            effect = trail.effect()
            for times in (2, 5, -3, FAR):
                if fields_of(same, effect.power(times), effect.power(times - 1) * effect) is None:
                    self.assertTrue(same(effect.power(times), effect.power(times - 1) * effect))
                    self.assertTrue(same(effect.power(times), (-effect).power(-times)))

    def test_moved_and_merged(self):
        one = (Effect.mark((2, 3), 4) * going(1, 1)).power(FAR)
        two = (Effect.mark((0, 1), -4) * going(1, 0)).power(FAR)
        for vector in ((0, 0), (5, -7), (10 ** 50, 0)):
            self.assertEqual(same(one, one.moved(vector)), vector == (0, 0))
            self.assertTrue(same(one.moved(vector).moved(tuple(-item for item in vector)), one))
        self.assertTrue(same(one.merged(two), two.merged(one)))
        self.assertIsNone(difference(one.merged(two), one * two.moved(tuple(-item for item in one.shift))))
        self.assertFalse(same(one.merged(two), one))

    def test_shifts_are_compared_by_same_alone(self):
        one = Effect.mark((1,), 5)
        other = one * going(3)
        self.assertIsNone(difference(one, other))
        self.assertFalse(same(one, other))
        self.assertFalse(same(Effect.still(2), going(0, 1)))
        self.assertTrue(same(Effect.still(2), going(0, 0)))

    def test_numbers_are_added_put_by_put(self):
        one = effect_of((("put", 3), ("put", 4), ("repeat", 5, (("put", 2),)), ("repeat", -3, (("put", 2),))))
        self.assertTrue(same(one, Effect.mark((0,), 11)))
        self.assertEqual(difference(one, Effect.mark((0,), 10)), (((0,), 1), ((0,), 1)))
        zero = effect_of((("put", 0), ("repeat", FAR, (("put", 1), ("put", -1), ("go", (1,)))), ("go", (-1,))))
        self.assertIsNone(difference(zero, Effect.still(1)))

    def test_numbers_are_multiplied(self):
        body = (("put", 3), ("go", (2, 0, 1)), ("put", -5), ("go", (0, -1, 0)))
        tripled = (("put", 9), ("go", (2, 0, 1)), ("put", -15), ("go", (0, -1, 0)))
        one, other = effect_of((("repeat", FAR, body),), 3), effect_of((("repeat", FAR, tripled),), 3)
        self.assertIsNone(difference(one.merged(one, one), other))
        self.assertIsNone(difference(one, other, modulo=2))
        self.assertEqual(difference(one.merged(one), other)[0], ((0, 0, 0), -3))
        self.assertEqual(difference(other, one, modulo=4)[0], ((0, 0, 0), 2))

    def test_counts_are_compared_modulo(self):
        one = Effect.mark((1,), 7).merged(Effect.mark((2,), 10), Effect.mark((5,), -1))
        self.assertEqual(difference(one, Effect.still(1), modulo=7), (((2,), 3), ((5,), 6)))
        self.assertEqual(difference(one, Effect.still(1), modulo=10), (((1,), 7), ((5,), 9)))
        self.assertEqual(difference(Effect.still(1), one, modulo=10), (((1,), 3), ((5,), 1)))
        self.assertEqual(difference(one, Effect.still(1), modulo=2), (((1,), 1), ((5,), 1)))
        self.assertEqual(difference(one, Effect.still(1), modulo=0), (((1,), 7), ((5,), -1)))
        self.assertEqual(difference(one, Effect.still(1), modulo=10 ** 6), (((1,), 7), ((5,), 999999)))
        self.assertIsNone(difference(one, one.merged(Effect.mark((9,), 10 ** 6)), modulo=10 ** 6))

    def test_an_odd_number_of_loops_turns_no_sign(self):
        for vectors in (((1, 0),), ((1, 0), (0, 1)), ((1, 0), (0, 1), (1, 1)), ((1, 0),) * 5):
            effect = loaded(*vectors)
            last = moved((0, 0), tuple(sum(vector[axis] for vector in vectors) for axis in range(2)))
            self.assertEqual(difference(effect, Effect.still(2)), (((0, 0), 1), (last, 1)))
            self.assertEqual(difference(Effect.still(2), effect, modulo=5), (((0, 0), 4), (last, 4)))

    def test_the_results_are_tuples(self):
        found = difference(Effect.mark((1, 2), 3), Effect.still(2))
        self.assertEqual(found, (((1, 2), 3), ((1, 2), 3)))
        self.assertIs(same(Effect.still(1), Effect.still(1)), True)
        self.assertIs(same(Effect.still(1), going(1)), False)
        self.assertIs(commute(Effect.still(1), going(1)), True)


class Limits(unittest.TestCase):
    def test_terms(self):
        for left, right in ((499, 0), (500, 0), (0, 500), (250, 250), (1, 499)):
            self.assertEqual(same(marks(left), marks(right)), left == right)
        for left, right in ((501, 0), (0, 501), (250, 251), (251, 250), (500, 502), (502, 0)):
            for query in (difference, same):
                self.assertEqual(fields_of(query, marks(left), marks(right)), (TooMany, 500))
            self.assertEqual(fields_of(same, marks(left), marks(right) * going(1)), (TooMany, 500))

    def test_loads(self):
        strides = [(number,) for number in range(1, 11)]
        for load in (7, 8, 9, 10):
            for cut in (4, 5, 6):
                one, other = loaded(*strides[:cut]), loaded(*strides[cut:load])
                error = (Overload, load) if load > 8 else None
                self.assertEqual(fields_of(difference, one, other), error)
                self.assertEqual(fields_of(same, one, other), error)
                self.assertEqual(fields_of(same, one, other * going(3)), error)
                self.assertEqual(fields_of(difference, one.merged(other), Effect.still(1)), error)

    def test_equal_strides_count_once_for_all_terms(self):
        one, other = loaded(*[(1, 0)] * 5), loaded((0, 1), (0, 1), (1, 0), (0, 2))
        self.assertFalse(same(one, other.merged(other, other)))
        self.assertEqual(loads(one.merged(other)), {(1, 0): 5, (0, 1): 2, (0, 2): 1})
        more = other.merged(loaded((0, 1), (0, 1), (0, 1)))
        self.assertEqual(fields_of(same, one, more), (Overload, 9))
        self.assertEqual(fields_of(same, more, loaded(*[(1, 0)] * 6)), (Overload, 10))
        self.assertEqual(fields_of(same, loaded((1, 1), (2, 2), (3, 3), (1, 2)), loaded(*[(1, 0)] * 5)), (Overload, 9))

    def test_loads_of_opposite_strides(self):
        one, other = loaded((1, -1), (0, 2)), loaded((-1, 1), (0, -2))
        self.assertEqual(loads(one), loads(other))
        self.assertEqual(difference(one, other.moved((1, 1))), None)

    def test_the_order_of_errors(self):
        heavy = loaded(*[(number,) for number in range(1, 7)])
        both = heavy.merged(loaded((7,), (8,), (9,)))
        for modulo in (1, -1, -2, 10 ** 6 + 1, 10 ** 40, -FAR):
            for effect in (marks(3), both, marks(501), both.merged(marks(500))):
                self.assertEqual(fields_of(difference, effect, effect, modulo=modulo), (InvalidCount, modulo))
        for modulo in (0, 2, 10 ** 6):
            self.assertIsNone(fields_of(difference, heavy, heavy, modulo=modulo))
            self.assertEqual(fields_of(difference, both, heavy, modulo=modulo), (Overload, 9))
            self.assertEqual(fields_of(difference, both, marks(498), modulo=modulo), (Overload, 9))
            self.assertEqual(fields_of(difference, both, marks(499), modulo=modulo), (TooMany, 500))
        self.assertEqual(fields_of(same, both, marks(498)), (Overload, 9))
        self.assertEqual(fields_of(same, both, marks(499) * going(1)), (TooMany, 500))

    def test_five_hundred_terms_of_load_eight(self):
        effect = loaded((1, 0), (0, 1), (1, 1), (2, 1), (1, 2), (3, 1))
        other = loaded((1, 0), (0, 1), (4, 1), (1, 4))
        many = Effect.still(2).merged(*[effect.moved((place, 0)) for place in range(300)],
                                      *[other.moved((0, place)) for place in range(199)])
        self.assertEqual(len(many.terms()), 499)
        self.assertEqual(difference(many, Effect.mark((400, 0), 9))[0], ((0, 0), 2))

    def test_modulo_is_passed_by_keyword(self):
        self.assertIsNone(difference(one=Effect.still(1), other=Effect.still(1)))
        self.assertIsNone(difference(other=Effect.still(1), modulo=2, one=Effect.mark((1,), 4)))
        with self.assertRaises(TypeError):
            difference(Effect.still(1), Effect.still(1), 0)


class Commute(unittest.TestCase):
    def both_ways(self, dimension, one, other):
        return strewn(dimension, {}, one + other) == strewn(dimension, {}, other + one)

    def test_drawn_pairs(self):
        found = {True: 0, False: 0}
        for dimension in (1, 2, 3):
            dice = Dice(50 + dimension)
            for _ in range(150):
                one, other = small_block(dice, dimension, 2, []), small_block(dice, dimension, 2, [])
                left, right = effect_of(one, dimension), effect_of(other, dimension)
                if fields_of(commute, left, right) is None:
                    expected = self.both_ways(dimension, one, other)
                    self.assertEqual(commute(left, right), expected)
                    self.assertEqual(commute(right, left), expected)
                    found[expected] += 1
        self.assertGreater(min(found.values()), 50)

    def test_powers_of_one(self):
        for dimension in (1, 2, 3):
            dice = Dice(60 + dimension)
            for _ in range(60):
                one = effect_of(small_block(dice, dimension, 1, []), dimension)
                for left, right in ((2, 3), (-1, 4), (-5, -2), (0, 7), (FAR, 1), (10 ** 20, -FAR)):
                    if fields_of(commute, one.power(left), one.power(right)) is None:
                        self.assertTrue(commute(one.power(left), one.power(right)))

    def test_ones_that_do_not_move(self):
        one, other = Effect.mark((5,), 3), (Effect.mark((0,), 1) * going(1)).power(FAR) * going(-FAR)
        self.assertTrue(commute(one, other))
        self.assertTrue(commute(Effect.still(1), other))
        self.assertFalse(commute(one, going(1)))
        self.assertTrue(commute(Effect.mark((5,), 3).merged(Effect.mark((5,), -3)), going(1)))
        self.assertTrue(commute(going(1, 2), going(5, -1)))
        self.assertTrue(commute(Effect.still(3), Effect.still(3)))

    def test_rows_that_fit(self):
        row = (Effect.mark((0,), 1) * going(1)).power(6)
        self.assertTrue(commute(row, (Effect.mark((0,), 1) * going(1)).power(4)))
        self.assertFalse(commute(row, (Effect.mark((0,), 2) * going(1)).power(4)))
        self.assertFalse(commute(row, (Effect.mark((0,), 1) * going(2)).power(4)))

    def test_errors(self):
        self.assertIsNone(fields_of(commute, marks(125), marks(125)))
        self.assertEqual(fields_of(commute, marks(125), marks(126)), (TooMany, 500))
        self.assertEqual(fields_of(commute, marks(251), Effect.still(1)), (TooMany, 500))
        strides = [(number,) for number in range(1, 11)]
        for load in (8, 9, 10):
            error = (Overload, load) if load > 8 else None
            self.assertEqual(fields_of(commute, loaded(*strides[:4]), loaded(*strides[4:load])), error)
        both = loaded(*strides[:5]).merged(loaded(*strides[5:9]))
        self.assertEqual(fields_of(commute, both, marks(249)), (TooMany, 500))
        self.assertEqual(fields_of(commute, both, marks(248)), (Overload, 9))


class Exponent(unittest.TestCase):
    def test_powers_of_drawn_effects(self):
        found = 0
        for dimension in (1, 2, 3):
            dice = Dice(90 + dimension)
            for _ in range(80):
                one = effect_of(small_block(dice, dimension, 2, []), dimension)
                for times in (0, 1, -1, 2, -3, 10 ** 15 + 1, FAR, -FAR):
                    power = one.power(times)
                    if fields_of(exponent, one, power) is not None:
                        continue
                    found += 1
                    nothing = one.shift == (0,) * dimension and not heap_of(one.terms())
                    self.assertEqual(exponent(one, power), 0 if nothing else times)
        self.assertGreater(found, 500)

    def test_blocks_against_running_them(self):
        found = {True: 0, False: 0}
        for dimension in (1, 2, 3):
            dice = Dice(190 + dimension)
            for _ in range(60):
                block = small_block(dice, dimension, 1, [])
                power = (("repeat", dice.roll(9) - 4, block),)
                for other in (small_block(dice, dimension, 1, []), power, power + PUT, (("put", -2), *power),
                              power + (("go", (1,) * dimension),)):
                    one, two = effect_of(block, dimension), effect_of(other, dimension)
                    if fields_of(exponent, one, two) is None:
                        target = strewn(dimension, {}, other)
                        fits = [times for times in range(-12, 13)
                                if strewn(dimension, {}, (("repeat", times, block),)) == target]
                        self.assertEqual(exponent(one, two), min(fits, key=abs) if fits else None)
                        found[bool(fits)] += 1
        self.assertGreater(min(found.values()), 100)

    def test_far_powers(self):
        body = (("put", 2), ("repeat", 10 ** 10, (("go", (3, -1)), ("put", -1))), ("go", (0, 5)))
        one = effect_of(body, 2)
        for times in (2, 7, 10 ** 17, FAR, -2, -10 ** 17, -FAR, 1, -1, 0):
            other = effect_of((("repeat", times, body),), 2)
            self.assertEqual(exponent(one, other), times)
            self.assertEqual(exponent(one, other * -one * one), times)
            self.assertIsNone(exponent(one, other * Effect.mark((0, 0), 1)))
            self.assertIsNone(exponent(one, other * going(0, 1)))
            self.assertIsNone(exponent(one, other.moved((1, 0)) if times else other.merged(Effect.mark((1, 0), 1))))

    def test_ones_that_do_not_move(self):
        one = Effect.mark((1,), 3).merged((Effect.mark((4,), -6) * going(1)).power(FAR))
        for times in (1, -1, 2, 5, -7, FAR, -FAR, 10 ** 59):
            self.assertEqual(exponent(one, one.power(times)), times)
            self.assertIsNone(exponent(one, one.power(times).merged(Effect.mark((1,), 1))))
            self.assertIsNone(exponent(one, one.power(times).merged(Effect.mark((0,), 3))))
            self.assertIsNone(exponent(one, one.power(times).moved((1,))))
        self.assertEqual(exponent(one, Effect.still(1)), 0)
        self.assertEqual(exponent(one, one.merged(-one)), 0)
        self.assertIsNone(exponent(Effect.mark((1,), 3), Effect.mark((1,), 4)))
        self.assertIsNone(exponent(Effect.mark((1,), 3), Effect.mark((2,), 3)))
        self.assertEqual(exponent(Effect.mark((1,), -3), Effect.mark((1,), 12)), -4)

    def test_still_ones(self):
        nothing = Effect.mark((1,), 3).merged(Effect.mark((1,), -3))
        for still in (Effect.still(1), nothing):
            self.assertEqual(exponent(still, Effect.still(1)), 0)
            self.assertEqual(exponent(still, nothing), 0)
            self.assertIsNone(exponent(still, Effect.mark((1,), 1)))
            self.assertIsNone(exponent(still, going(1)))
        self.assertEqual(exponent(going(2), going(-6)), -3)
        self.assertEqual(exponent(going(2), Effect.still(1)), 0)
        self.assertIsNone(exponent(going(2), Effect.mark((0,), 1)))
        self.assertEqual(exponent(going(2), nothing), 0)

    def test_shifts_that_do_not_fit_are_not_checked_further(self):
        both = loaded((1, 0), (0, 1), (1, 1), (1, 2), (1, 3)).merged(loaded((2, 1), (3, 1), (4, 1), (5, 1)))
        many = Effect.still(2).merged(*[Effect.mark((place, 0), 1) for place in range(501)])
        for heavy in (both, many, both.merged(many)):
            for one, other in ((going(2, 0), going(3, 0)), (going(2, 4), going(2, 3)), (going(0, 2), going(1, 0)),
                               (going(2, 0), going(2, 1)), (Effect.still(2), going(0, 1)),
                               (going(-2, 4), going(2, 4)), (going(0, 4), going(0, 2))):
                self.assertIsNone(exponent(heavy * one, heavy * other))
                self.assertIsNone(exponent(one, heavy * other))

    def test_terms_of_the_power_are_counted(self):
        one = marks(250) * going(1)
        self.assertIsNone(fields_of(exponent, one, marks(250) * going(7)))
        self.assertEqual(fields_of(exponent, one, marks(251) * going(7)), (TooMany, 500))
        self.assertIsNone(fields_of(exponent, one, marks(500)))
        self.assertIsNone(exponent(one, marks(500)))
        self.assertEqual(fields_of(exponent, one, marks(501)), (TooMany, 500))
        self.assertEqual(fields_of(exponent, marks(250), marks(251)), (TooMany, 500))
        self.assertEqual(fields_of(exponent, marks(250), marks(251).moved((1,))), (TooMany, 500))
        nothing = marks(125).merged(-marks(125))
        self.assertIsNone(fields_of(exponent, nothing, marks(250)))
        self.assertEqual(fields_of(exponent, nothing, marks(251)), (TooMany, 500))
        self.assertEqual(fields_of(exponent, marks(251), nothing), (TooMany, 500))
        self.assertEqual(exponent(marks(250), marks(250)), 1)

    def test_loops_of_the_power_are_counted(self):
        strides = [(1, 0), (0, 1), (1, 1), (2, 1), (1, 2), (3, 1), (1, 3), (4, 1)]
        for own, others in ((3, 4), (3, 5), (4, 4), (2, 6), (1, 6)):
            one, other = loaded(*strides[:own]) * going(9, 1), loaded(*strides[own:own + others])
            load = own + others + 1
            error = (Overload, load) if load > 8 else None
            for times in (2, -2, FAR):
                self.assertEqual(fields_of(exponent, one, other * going(9 * times, times)), error)
            for times in (0, 1, -1):
                self.assertIsNone(fields_of(exponent, one, other * going(9 * times, times)))
        one, other = loaded(*strides[:5]), loaded(*strides[5:])
        self.assertIsNone(fields_of(exponent, one, other))
        self.assertEqual(fields_of(exponent, one, other.merged(loaded((7, 1)))), (Overload, 9))
        self.assertEqual(fields_of(exponent, one, other.merged(loaded((7, 1))).moved((0, 1))), (Overload, 9))
        # The power 0 has no terms, so that its loops do not count.
        both = loaded(*strides[:4]).merged(loaded(*strides[4:]), loaded((7, 1)))
        self.assertIsNone(fields_of(exponent, both * going(1, 0), loaded(*strides[:6])))
        self.assertEqual(fields_of(exponent, both, loaded((1, 0))), (Overload, 9))

    def test_too_deep_comes_last(self):
        six = [(1, 0), (0, 1), (1, 1), (2, 1), (1, 2), (3, 1)]
        one = loaded(*six) * going(5, 7)
        for times in (2, -2, 3, FAR, -FAR):
            shift = going(5 * times, 7 * times)
            self.assertEqual(fields_of(exponent, one, shift), (TooDeep, 6))
            self.assertEqual(fields_of(exponent, one, loaded((9, 1)) * shift), (TooDeep, 6))
            self.assertEqual(fields_of(exponent, one, loaded((9, 1), (9, 2)) * shift), (Overload, 9))
            self.assertEqual(fields_of(exponent, one, Effect.mark((0, 0), 1).merged(
                *[Effect.mark((place, 0), 1) for place in range(499)]) * shift), (TooMany, 500))
        self.assertEqual(exponent(one, one), 1)
        self.assertEqual(exponent(one, -one), -1)
        self.assertEqual(exponent(one, Effect.still(2)), 0)
        self.assertIsNone(exponent(one, going(5, 7)))
        deep = loaded(*six)
        self.assertEqual(exponent(deep, deep.power(9)), 9)

    def test_the_same_stride_of_the_power(self):
        one = loaded((1, 0), (1, 0)) * going(1, 0)
        self.assertEqual(exponent(one, one.power(4)), 4)
        five = loaded(*[(1, 0)] * 5) * going(1, 0)
        self.assertEqual(exponent(five, five.power(-4)), -4)


class Blocks(unittest.TestCase):
    def test_loops_that_run_nothing(self):
        self.assertTrue(same(effect_of(nested(6)), Effect.still(1)))
        self.assertTrue(same(effect_of((("repeat", 0, PUT),)), Effect.still(1)))

    def test_axes_exchanged_and_turned_round(self):
        for turn in ((1, 1, 1), (-1, 1, 1), (1, -1, 1), (-1, -1, -1)):
            for axes in ((0, 1, 2), (1, 0, 2), (2, 0, 1)):
                for dice, dimension, parts, block, one in far_pairs(8, 300):
                    order = [axis for axis in axes if axis < dimension]
                    blocks = {"a": bent(parts.block("a"), order, turn)}
                    other = effect_of(bent(block, order, turn), dimension, **blocks)
                    self.assertEqual(other.total, one.total)
                    if fields_of(same, one, one.moved(one.shift)) is None:
                        self.assert_bent(one, other, order, turn)

    def assert_bent(self, one, other, order, turn):
        place = (3,) * len(order)
        there = tuple(turn[axis] * place[axis] for axis in order)
        more, others = one * Effect.mark(place, 7), other * Effect.mark(there, 7)
        at = moved(place, one.shift)
        self.assertEqual(difference(more, one), ((at, 7), (at, 7)))
        at = tuple(turn[axis] * at[axis] for axis in order)
        self.assertEqual(difference(others, other), ((at, 7), (at, 7)))
        self.assertEqual(exponent(one, more) is None, exponent(other, others) is None)
        self.assertEqual(commute(one, going(*place)), commute(other, going(*there)))


def bent(block, order, turn):
    """Return a block with the axes in another order, some of them turned round."""
    found = ()
    for statement in block:
        if statement[0] == "go":
            statement = ("go", tuple(turn[axis] * statement[1][axis] for axis in order))
        elif statement[0] == "repeat":
            statement = ("repeat", statement[1], bent(statement[2], order, turn))
        found += (statement,)
    return found


if __name__ == "__main__":
    unittest.main()
