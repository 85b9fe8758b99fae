"""Points 13 and 14 and the section strewfar/residues.py."""

import itertools
import unittest

from helpers import (Dice, counts_of, effect_of, far_block, fields_of, going, heap_of, otherwise, programs, runs,
                     small_block)
from strewfar.blocks import reverse
from strewfar.effects import Effect
from strewfar.errors import InvalidCount, Overload, TooLong, TooMany, WrongDimension
from strewfar.parts import Parts
from strewfar.residues import offset, residue_sums
from strewfar.trails import trail_of

FAR = 10 ** 30
MODULI = {1: [(1,), (2,), (3,), (7,), (40,)], 2: [(1, 1), (2, 3), (5, 8), (1, 40), (4, 1)],
          3: [(1, 1, 1), (2, 3, 4), (3, 3, 3), (1, 2, 20), (2, 2, 10)]}


def residues_of(place, moduli):
    return tuple(item % modulus for item, modulus in zip(place, moduli))


def sums_of(counts, moduli):
    """Return what residue_sums returns for counts by place."""
    return sorted(counts_of([(residues_of(place, moduli), count) for place, count in counts.items()]).items())


def refined(sums, moduli):
    """Return the sums for coarser moduli."""
    return sums_of(dict(sums), moduli)


def far_effects(many, seed, levels=3):
    for dimension in (1, 2, 3):
        dice = Dice(seed + dimension)
        for _ in range(many):
            parts = Parts(dimension, {"a": far_block(dice, dimension, 1)})
            block = far_block(dice, dimension, levels, ["a"])
            if fields_of(parts.check, block) is None:
                yield dice, dimension, parts, block, trail_of(parts, block).effect()


class StepByStep(unittest.TestCase):
    def test_programs(self):
        for dimension, blocks, block, trail, steps in programs(60, 500, 4):
            counts = counts_of([(place, number) for _, place, number, _ in steps.puts])
            for moduli in MODULI[dimension]:
                with self.subTest(blocks=blocks, block=block, moduli=moduli):
                    self.assertEqual(residue_sums(trail.effect(), moduli), sums_of(counts, moduli))

    def test_by_hand(self):
        effect = Effect.mark((5,), 3).merged(Effect.mark((-1,), 4), Effect.mark((2,), -2))
        self.assertEqual(residue_sums(effect, (3,)), [((2,), 5)])
        self.assertEqual(residue_sums(effect, (4,)), [((1,), 3), ((2,), -2), ((3,), 4)])
        self.assertEqual(residue_sums(effect, (1,)), [((0,), 5)])
        self.assertEqual(residue_sums(Effect.mark((-1, 7), 4), (2, 3)), [((1, 1), 4)])

    def test_no_zeros(self):
        self.assertEqual(residue_sums(Effect.still(2), (4, 5)), [])
        both = Effect.mark((1,), 3).merged(Effect.mark((4,), -3))
        self.assertEqual(residue_sums(both, (3,)), [])
        self.assertEqual(residue_sums(both, (2,)), [((0,), -3), ((1,), 3)])

    def test_ascending(self):
        effect = effect_of((("repeat", -FAR, (("put", 1), ("go", (3, -1)))),), 2)
        found = residue_sums(effect, (4, 10))
        self.assertEqual([there for there, _ in found], sorted(there for there, _ in found))
        self.assertEqual(len(found), 20)

    def test_all_classes_of_a_far_row(self):
        row = effect_of((("repeat", FAR, (("put", 1), ("go", (1,)))),))
        for modulus in range(1, 41):
            expected = [((rest,), FAR // modulus + (rest < FAR % modulus)) for rest in range(modulus)]
            self.assertEqual(residue_sums(row, (modulus,)), expected)


class FarPrograms(unittest.TestCase):
    def test_all_sums_together_are_the_total(self):
        for _, dimension, _, _, effect in far_effects(30, 7):
            for moduli in MODULI[dimension]:
                found = residue_sums(effect, moduli)
                self.assertEqual(sum(total for _, total in found), effect.total)
                self.assertNotIn(0, [total for _, total in found])
                self.assertEqual([there for there, _ in found], sorted({there for there, _ in found}))
                self.assertTrue(all(residues_of(there, moduli) == there for there, _ in found))

    def test_coarser_moduli(self):
        finer = {1: ((36,), (24,), (40,)), 2: ((4, 10), (6, 6)), 3: ((2, 4, 5), (4, 2, 4))}
        for _, dimension, _, _, effect in far_effects(20, 8):
            for moduli in finer[dimension]:
                found = residue_sums(effect, moduli)
                divisors = [[number for number in range(1, modulus + 1) if modulus % number == 0] for modulus in moduli]
                for coarser in itertools.product(*divisors):
                    self.assertEqual(residue_sums(effect, coarser), refined(found, coarser))

    def test_moved_heaps(self):
        for dice, dimension, _, _, effect in far_effects(20, 9):
            vector = tuple(dice.roll(99) - 10 ** dice.roll(40) for _ in range(dimension))
            for moduli in MODULI[dimension]:
                expected = [(tuple(item + by for item, by in zip(there, vector)), total)
                            for there, total in residue_sums(effect, moduli)]
                self.assertEqual(residue_sums(effect.moved(vector), moduli), refined(expected, moduli))

    def test_programs_written_otherwise(self):
        for dice, dimension, parts, block, effect in far_effects(30, 10):
            other = otherwise(dice, otherwise(dice, block))
            if fields_of(parts.check, other) is None:
                for moduli in MODULI[dimension]:
                    self.assertEqual(residue_sums(trail_of(parts, other).effect(), moduli),
                                     residue_sums(effect, moduli))

    def test_tangled_effects(self):
        effect = Effect.mark((0,), 1)
        for stride in (1, 2, 3, 5, 40):
            effect = (effect * going(stride)).power(FAR)
        for modulus in (1, 3, 40):
            self.assertEqual(sum(total for _, total in residue_sums(effect, (modulus,))), FAR ** 5)

    def test_any_number_of_terms_and_loops(self):
        effect = Effect.mark((0, 0), 1)
        for stride in range(6):
            effect = (effect * going(1, stride)).power(FAR)
        many = Effect.still(2).merged(*[effect.moved((place, 1)) for place in range(600)])
        self.assertEqual(sum(total for _, total in residue_sums(many, (5, 8))), 600 * FAR ** 6)


class Errors(unittest.TestCase):
    def test_wrong_dimensions(self):
        for dimension in (1, 2, 3):
            for many in (0, 1, 2, 3, 4, 50):
                error = None if many == dimension else (WrongDimension, many)
                for moduli in ((1,) * many, [1] * many):
                    self.assertEqual(fields_of(residue_sums, Effect.still(dimension), moduli), error)
        self.assertEqual(fields_of(residue_sums, Effect.still(2), (0,)), (WrongDimension, 1))
        self.assertEqual(fields_of(residue_sums, Effect.still(2), (41, 0, -1)), (WrongDimension, 3))

    def test_moduli_below_one(self):
        for moduli, number in (((0, 5), 0), ((5, -1), -1), ((-FAR, 0), -FAR), ((41, 0), 0), ((0, -3), 0),
                               ((-2, 99), -2)):
            self.assertEqual(fields_of(residue_sums, Effect.still(2), moduli), (InvalidCount, number))
            self.assertEqual(fields_of(residue_sums, Effect.still(2), list(moduli)), (InvalidCount, number))

    def test_too_many_classes(self):
        for moduli in ((40,), (5, 8), (2, 4, 5), (40, 1, 1)):
            self.assertIsNone(fields_of(residue_sums, Effect.still(len(moduli)), moduli))
        for moduli in ((41,), (FAR,), (41, 1), (6, 7), (3, 14, 1), (2, 3, 7), (40, 2, 1), (10 ** 50, 10 ** 50, 1)):
            self.assertEqual(fields_of(residue_sums, Effect.still(len(moduli)), moduli), (TooLong, 40))

    def test_arguments_are_not_changed(self):
        moduli = [3, 4]
        effect = Effect.mark((1, 2), 3)
        found = residue_sums(moduli=moduli, effect=effect)
        self.assertEqual((moduli, found), ([3, 4], [((1, 2), 3)]))
        found.clear()
        self.assertEqual(residue_sums(effect, moduli), [((1, 2), 3)])


def heap_by_steps(block):
    """Return the shift and the heap of a block in one dimension, by running it."""
    place, puts = 0, []
    for word, given, _, _ in runs({}, block):
        if word == "go":
            place += given[0]
        else:
            puts.append(((place,), given))
    return place, counts_of(puts)


def offset_by_steps(block, other):
    """Return what offset returns for two blocks in one dimension, by running them."""
    shift, heap = heap_by_steps(block)
    shift_of_other, heap_of_other = heap_by_steps(other)
    if shift != shift_of_other:
        return None
    if shift == 0:
        if not heap or not heap_of_other:
            return 0 if heap == heap_of_other else None
        distance = min(heap)[0] - min(heap_of_other)[0]
        return distance if {(place - distance,): count for (place,), count in heap.items()} == heap_of_other else None
    size = abs(shift)
    for turn in range(size):
        sums = sums_of({(place - turn,): count for (place,), count in heap.items()}, (size,))
        if sums == sums_of(heap_of_other, (size,)):
            return turn
    return None


def begun_elsewhere(block, way):
    """Return the block that undoes a way, runs the block, and goes the way again."""
    return reverse(way) + block + way


class Offset(unittest.TestCase):
    def test_drawn_blocks(self):
        dice = Dice(4)
        found = {True: 0, False: 0}
        for _ in range(500):
            block, way = small_block(dice, 1, 2, []), small_block(dice, 1, 1, [])
            for other in (small_block(dice, 1, 2, []), begun_elsewhere(block, way),
                          begun_elsewhere(block, way) + (("put", 1),)):
                one, two = effect_of(block), effect_of(other)
                if abs(one.shift[0]) <= 40 and fields_of(offset, one, two) is None:
                    expected = offset_by_steps(block, other)
                    self.assertEqual(offset(one, two), expected)
                    found[expected is not None] += 1
        self.assertGreater(min(found.values()), 300)

    def test_every_shift(self):
        dice = Dice(6)
        for shift in range(-40, 41):
            if shift == 0:
                continue
            block = (("put", 3), ("repeat", 10 ** 20, (("put", 1), ("go", (7,)))), ("go", (5,)), ("put", -2))
            back = -(7 * 10 ** 20 + 5) + shift
            one = effect_of(block) * going(back)
            for turn in (0, 1, abs(shift) - 1, dice.roll(10 ** 9), -dice.roll(10 ** 30)):
                way = going(turn) * Effect.mark((dice.roll(10 ** 9),), 4)
                other = -way * one * way
                self.assertEqual(offset(one, other), turn % abs(shift))
                self.assertIsNone(offset(one, other * Effect.mark((0,), 1)))
                self.assertIsNone(offset(one, other.moved((1,)) * going(1)))

    def test_the_least_number(self):
        # Marks at every third place: three turns would do, and the least is asked for.
        one = Effect.mark((0,), 1).merged(Effect.mark((3,), 1), Effect.mark((6,), 1), Effect.mark((9,), 1)) * going(12)
        for turn in range(-20, 21):
            way = going(turn)
            self.assertEqual(offset(one, -way * one * way), turn % 3)
        self.assertEqual(offset(going(40), going(40)), 0)
        self.assertEqual(offset(one, one), 0)
        self.assertEqual(offset(-one, -one), 0)

    def test_a_way_that_puts(self):
        one = (Effect.mark((1,), 5) * going(2)).power(3) * going(-13)
        way = effect_of((("repeat", 20, (("put", 3), ("go", (4,)), ("put", -8))),))
        self.assertEqual(offset(one, -way * one * way), 80 % 7)

    def test_none_fits(self):
        for other in (Effect.mark((0,), 2), Effect.mark((0,), 1).merged(Effect.mark((1,), 1)), Effect.still(1),
                      Effect.mark((0,), -1)):
            for shift in (1, -1, 5, -40, 0):
                self.assertIsNone(offset(Effect.mark((0,), 1) * going(shift), other * going(shift)))

    def test_shift_of_zero(self):
        for distance in (0, 5, -7, FAR, -10 ** 50):
            one = Effect.mark((3,), 2).merged((Effect.mark((9,), 1) * going(2)).power(FAR))
            self.assertEqual(offset(one, one.moved((-distance,))), distance)
            self.assertEqual(offset(one.moved((distance,)), one.merged(Effect.still(1))), distance)
            self.assertIsNone(offset(one, one.moved((-distance,)).merged(Effect.mark((4,), 1))))
            self.assertIsNone(offset(one.merged(Effect.mark((-4,), 1)), one.moved((-distance,))))
        self.assertEqual(offset(Effect.mark((10,), 1), Effect.mark((4,), 1)), 6)
        self.assertIsNone(offset(Effect.mark((10,), 1), Effect.mark((4,), 2)))

    def test_empty_heaps(self):
        nothing = Effect.mark((7,), 3).merged(Effect.mark((7,), -3))
        for one, other in itertools.product((Effect.still(1), nothing), repeat=2):
            self.assertEqual(offset(one, other), 0)
        self.assertIsNone(offset(nothing, Effect.mark((0,), 1)))
        self.assertIsNone(offset(Effect.mark((0,), 1), nothing))

    def test_shifts_that_differ(self):
        heavy = Effect.still(1).merged(*[Effect.mark((place,), 1) for place in range(501)])
        for one, other in ((0, 1), (5, -5), (41, 42), (-FAR, FAR), (0, -41), (40, 41)):
            self.assertIsNone(offset(going(one), going(other)))
            self.assertIsNone(offset(heavy * going(one), heavy * going(other)))

    def test_wrong_dimensions(self):
        for one in (1, 2, 3):
            for other in (1, 2, 3):
                error = (WrongDimension, one if one > 1 else other)
                if (one, other) != (1, 1):
                    self.assertEqual(fields_of(offset, Effect.still(one), Effect.still(other)), error)
                    self.assertEqual(fields_of(offset, going(*(50,) * one), going(*(50,) * other)), error)
                    self.assertEqual(fields_of(offset, going(*(5,) * one), Effect.still(other)), error)

    def test_shifts_that_are_too_long(self):
        for shift in (40, -40):
            self.assertEqual(offset(going(shift), going(shift)), 0)
        for shift in (41, -41, FAR, -10 ** 90):
            self.assertEqual(fields_of(offset, going(shift), going(shift)), (TooLong, 40))
            self.assertIsNone(offset(going(shift), going(shift + 1)))

    def test_errors_of_same(self):
        def loaded(strides):
            effect = Effect.mark((0,), 1)
            for stride in strides:
                effect = (effect * going(stride)).power(2)
                effect = effect * going(-effect.shift[0])
            return effect

        def marks(many):
            return Effect.still(1).merged(*[Effect.mark((place,), 1) for place in range(many)])

        self.assertIsNone(fields_of(offset, marks(250), marks(250)))
        self.assertEqual(fields_of(offset, marks(250), marks(251)), (TooMany, 500))
        nothing = marks(125).merged(-marks(125))
        self.assertIsNone(fields_of(offset, nothing, marks(250)))
        self.assertEqual(fields_of(offset, nothing, marks(251)), (TooMany, 500))
        self.assertEqual(fields_of(offset, marks(251), nothing), (TooMany, 500))
        self.assertIsNone(fields_of(offset, loaded(range(1, 5)), loaded(range(5, 9))))
        self.assertEqual(fields_of(offset, loaded(range(1, 5)), loaded(range(5, 10))), (Overload, 9))
        self.assertEqual(fields_of(offset, loaded(range(1, 5)), loaded(range(5, 10)).merged(marks(500))),
                         (TooMany, 500))
        # With a shift, nothing is compared place by place.
        self.assertIsNone(fields_of(offset, loaded(range(1, 6)) * going(3), loaded(range(6, 11)) * going(3)))
        self.assertIsNone(fields_of(offset, marks(600) * going(1), marks(600) * going(1)))

    def test_queries_change_nothing(self):
        one = (Effect.mark((1,), 5) * going(2)).power(3)
        before = (one.shift, one.terms(), heap_of(one.terms()))
        offset(other=one, one=one)
        residue_sums(one, (3,))
        self.assertEqual((one.shift, one.terms(), heap_of(one.terms())), before)


if __name__ == "__main__":
    unittest.main()
