"""Points 2 and 3 over the whole program."""

import unittest

from helpers import effect_of, fields_of, going, nested
from strewfar import beats, blocks, compare, crews, errors, lattices, pages, places, residues, tables, tongue, trails
from strewfar.books import Book
from strewfar.crews import Crew, LateWalker, Walker
from strewfar.desks import Desk
from strewfar.effects import Effect
from strewfar.parts import Parts
from strewfar.trails import Trail

PUT = (("put", 1),)
BOTH = (("put", 1), ("go", (1,)))
PARTS = Parts(1, {"a": BOTH, "b": (("do", "a"), ("undo", "a"))})
FAR = 10 ** 30


def loaded(*strides):
    """Return an effect with one term that has a loop for each stride."""
    effect = Effect.mark((0,), 1)
    for stride in strides:
        effect = (effect * going(stride)).power(2)
        effect = effect * going(-effect.shift[0])
    return effect


def book_of(**parts):
    return Book.of(Parts(1, parts))


def crew_of(*walkers):
    crew = Crew(PARTS)
    crew.join(*walkers)
    return crew


TANGLED = (("put", 0), ("repeat", 2, (("repeat", 2, (("repeat", 2, BOTH), ("go", (1,)))), ("go", (1,)))))
# Each error: its field and value, and a call that raises it.
RAISED = (
    ("InvalidPlace", "place", (1, 2), lambda: Trail.still(1).visits((1, 2))),
    ("InvalidPlace", "place", (True,), lambda: Effect.still(1).amount((True,))),
    ("InvalidPlace", "place", (), lambda: next(beats.walk(PARTS, PUT, start=()))),
    ("InvalidPlace", "place", [0], lambda: Crew(PARTS).join(Walker("a", [0]))),
    ("InvalidBlock", "path", (1, 0), lambda: blocks.check_block(PUT + (("repeat", 1, (("go", 1),)),), 1)),
    ("InvalidBlock", "path", (0,), lambda: trails.trail_of(PARTS, (("put", False),))),
    ("InvalidBlock", "path", (0,), lambda: tongue.parse_block("put 1000000000001", 1)),
    ("InvalidName", "name", "A", lambda: Parts(1, {"A": ()})),
    ("InvalidName", "name", "", lambda: Book(1).define("", ())),
    ("DuplicateName", "name", "a", lambda: book_of(a=()).define("a", ())),
    ("DuplicateName", "name", "a", lambda: book_of(a=()).rename("a", "a")),
    ("CapacityExceeded", "capacity", 12, lambda: Parts(1, {letter: () for letter in "abcdefghijklm"})),
    ("CapacityExceeded", "capacity", 8, lambda: Crew(PARTS).join(*[Walker("a", (0,))] * 9)),
    ("Circular", "name", "a", lambda: Parts(1, {"b": (("do", "a"),), "a": (("do", "b"),)})),
    ("Circular", "name", "b", lambda: book_of(a=(("do", "b"),), b=()).redefine("b", (("do", "a"),))),
    ("InUse", "name", "b", lambda: book_of(a=(), b=(("do", "a"),)).drop("a")),
    ("TooLong", "limit", 60, lambda: blocks.check_block(PUT * 61, 1)),
    ("TooLong", "limit", 40, lambda: residues.residue_sums(Effect.still(1), [41])),
    ("TooLong", "limit", 40, lambda: residues.offset(going(41), going(41))),
    ("TooDeep", "limit", 6, lambda: PARTS.check(nested(7))),
    ("TooDeep", "limit", 6, lambda: (loaded(*range(1, 7)) * going(1)).power(2)),
    ("TooDeep", "limit", 6, lambda: compare.exponent(loaded(*range(1, 7)) * going(9), going(18))),
    ("TooMany", "limit", 60, lambda: Parts(1, {"a": PUT * 31}).check((("do", "a"),) * 2)),
    ("TooMany", "limit", 500, lambda: compare.same(Effect.still(1).merged(*[loaded(1)] * 501), Effect.still(1))),
    ("Overload", "load", 9, lambda: compare.difference(loaded(*range(1, 6)), loaded(*range(6, 10)))),
    ("Overload", "load", 2, lambda: lattices.solutions([(1,), (2,), (3,)], [5, 5, 5], (0,))),
    ("Tangled", "index", 1, lambda: trails.trail_of(PARTS, TANGLED).visits((0,))),
    ("Tangled", "index", 0, lambda: effect_of(TANGLED).amount((0,))),
    ("InvalidBeat", "beat", -1, lambda: beats.split(PARTS, PUT, -1)),
    ("InvalidBeat", "beat", 2, lambda: beats.split(PARTS, PUT, 2)),
    ("InvalidBeat", "beat", -5, lambda: Crew(PARTS).places(-5)),
    ("InvalidBeat", "beat", -1, lambda: Crew(PARTS).effect(beat=-1)),
    ("InvalidCount", "number", 1, lambda: compare.difference(Effect.still(1), Effect.still(1), modulo=1)),
    ("InvalidCount", "number", 0, lambda: residues.residue_sums(Effect.still(1), [0])),
    ("InvalidCount", "number", 10001, lambda: next(beats.walk(PARTS, PUT, limit=10001))),
    ("WrongDimension", "given", 4, lambda: Parts(4, {})),
    ("WrongDimension", "given", 0, lambda: Book(0)),
    ("WrongDimension", "given", 2, lambda: residues.residue_sums(Effect.still(1), [1, 1])),
    ("WrongDimension", "given", 3, lambda: residues.offset(Effect.still(3), Effect.still(2))),
    ("ParseError", "position", 6, lambda: tongue.parse_block("put 5 go 1", 1)),
    ("ParseError", "position", 1, lambda: pages.parse_book("ground 1\n\n")),
    ("InvalidCommand", "first", "lose", lambda: Book(1).apply(("lose", "a"))),
    ("InvalidCommand", "first", None, lambda: Book(1).apply_all([()])),
    ("UnknownName", "name", "x", lambda: PARTS.block("x")),
    ("UnknownName", "name", "x", lambda: Book(1).trail("x")),
    ("UnknownName", "name", "x", lambda: Walker("x", (0,)).last(PARTS)),
    ("UnknownWalker", "index", 0, lambda: Crew(PARTS).leave(0)),
    ("UnknownWalker", "index", -1, lambda: crew_of(Walker("a", (0,))).leave(-1)),
)


class Errors(unittest.TestCase):
    def test_each_error_is_called_up(self):
        for name, field, value, call in RAISED:
            with self.subTest(name=name), self.assertRaises((errors.StrewError, errors.NotFound)) as caught:
                call()
            error = caught.exception
            base = errors.NotFound if name.startswith("Unknown") else errors.StrewError
            self.assertIs(error.__class__, getattr(errors, name))
            self.assertEqual(error.__class__.__bases__, (base,))
            self.assertEqual((error.tag, vars(error)), (name, {field: value, "tag": name}))

    def test_all_errors_are_called_up(self):
        found = {name for name, thing in vars(errors).items() if isinstance(thing, type)}
        self.assertEqual({name for name, _, _, _ in RAISED}, found - {"StrewError", "NotFound", "NothingLeft"})

    def test_nothing_left(self):
        for book in (Book(1), book_of(a=())):
            for call in (book.undo, book.redo):
                with self.assertRaises(errors.NothingLeft) as caught:
                    call()
                self.assertEqual(vars(caught.exception), {"tag": "NothingLeft"})
                self.assertNotIsInstance(caught.exception, (errors.StrewError, errors.NotFound))
                self.assertIsInstance(caught.exception, IndexError)


def told(effect):
    return effect.dimension, effect.shift, effect.terms()


class Keywords(unittest.TestCase):
    """Calls by keyword, in another order than the interface lists the parameters."""

    def same(self, *pairs):
        for found, expected in pairs:
            self.assertEqual(found, expected)

    def test_functions_of_places_and_blocks(self):
        block = PUT + (("do", "a"),)
        self.same((places.is_place(dimension=2, thing=(1, 2)), True), (places.origin(dimension=2), (0, 0)),
                  (places.scale(place=(1, 2), number=3), (3, 6)), (places.opposite(place=(1,)), (-1,)),
                  (places.is_forward(vector=(0, 1)), True), (places.residue(moduli=[3], place=(-1,)), (2,)),
                  (blocks.is_name(text="a"), True), (blocks.is_block(dimension=1, block=block), True),
                  (blocks.check_block(dimension=1, block=block), None),
                  (blocks.reverse(block=block), (("undo", "a"), ("put", -1))), (blocks.statements(block=block), 2),
                  (blocks.depth(block=block), 0), (blocks.names_in(block=block), ["a"]),
                  (blocks.renamed(new="b", old="a", block=block), PUT + (("do", "b"),)),
                  (tongue.format_block(block=block), "put 1; do a"),
                  (tongue.parse_block(dimension=1, text="put 1; do a"), block))

    def test_parts_trails_and_effects(self):
        parts = Parts(blocks={"a": BOTH}, dimension=1)
        trail = trails.trail_of(block=BOTH, parts=parts)
        effect = Effect.mark(number=5, place=(2,))
        self.same((Parts.empty(dimension=2).dimension, 2), (parts.block(name="a"), BOTH), (parts.users(name="a"), []),
                  (parts.check(block=PUT), None), (parts.depth(block=PUT), 0), (parts.puts(block=PUT), 1),
                  (lattices.relations(vectors=[(1,), (2,)]), 1),
                  (lattices.solutions(target=(2,), times=[9], vectors=[(1,)]), (1, (2,), (2,))),
                  (Trail.put(number=3, dimension=1).strewings(), [(3, (0,), 0, ())]),
                  (Trail.go(vector=(3,)).shift, (3,)), (Trail.still(dimension=2).shift, (0, 0)),
                  (trail.repeated(times=2).beats, 4), (trail.visits(place=(0,)), (1, 0, 0)),
                  (effect.power(times=2).terms(), [(10, (2,), ())]), (effect.amount(place=(2,)), 5),
                  (effect.moved(vector=(1,)).terms(), [(5, (3,), ())]), (Effect.still(dimension=1).terms(), []))

    def test_functions_of_effects(self):
        one, other = Effect.mark((1,), 5), Effect.mark((2,), 3)
        self.same((compare.difference(modulo=4, other=other, one=one), (((1,), 1), ((2,), 1))),
                  (compare.same(other=other, one=one), False), (compare.commute(other=other, one=one), True),
                  (compare.exponent(other=one.power(7), one=one), 7),
                  (compare.exponent(one=one.power(7), other=one), None),
                  (residues.residue_sums(moduli=[2], effect=one), [((1,), 5)]),
                  (residues.offset(other=one, one=one.moved((4,))), 4))

    def test_beats_and_crews(self):
        front, back = beats.split(beat=1, block=BOTH, parts=PARTS)
        self.same((front.strewings(), [(1, (0,), 0, ())]), (back.shift, (1,)),
                  (list(beats.walk(limit=1, start=(4,), block=BOTH, parts=PARTS)), [(0, (4,), 1)]))
        walker, late = Walker(start=(3,), part="a"), LateWalker(delay=2, start=(3,), part="a")
        crew = Crew(parts=PARTS)
        crew.join(walker, late)
        self.same((walker.trail(parts=PARTS).beats, 2), (late.last(parts=PARTS), 4),
                  (walker.place_after(beats=2, parts=PARTS), (4,)),
                  (told(late.effect_after(beats=3, parts=PARTS)), (1, (0,), [(1, (3,), ())])),
                  (crew.places(beat=2), [(4,), (3,)]), (crew.effect(beat=2).total, 1), (crew.leave(index=0), walker))

    def test_books_and_desks(self):
        book = Book.of(parts=PARTS)
        book.rename(new="c", name="b")
        text = pages.format_book(book=book)
        desk = Desk(dimension=3, book=book)
        self.same((text, "ground 1\npart a: put 1; go 1\npart c: do a; undo a\n"), (pages.parse_book(text=text), book),
                  (desk.ask(line="names"), "a c"), (tables.table(parts=Parts.empty(dimension=1)), ""),
                  (book.effect(name="a").total, 1), (Book(dimension=3).parts.dimension, 3))


class Copies(unittest.TestCase):
    """What is passed is not changed, and may be changed behind a call; what is returned is new."""

    def test_a_dict_of_blocks(self):
        given = {"b": PUT, "a": BOTH}
        parts = Parts(1, given)
        self.assertEqual(list(given.items()), [("b", PUT), ("a", BOTH)])
        given["b"] = ()
        given["z"] = ()
        del given["a"]
        self.assertEqual((parts.names(), parts.block("b"), parts.puts((("do", "b"),))), (["a", "b"], PUT, 1))

    def test_lists(self):
        vectors, times, moduli, commands = [(1,), (0,)], [3, 4], [5], [("define", "a", PUT)]
        before = [list(vectors), list(times), list(moduli), list(commands)]
        book = Book(1)
        for _ in range(2):
            lattices.relations(vectors)
            lattices.solutions(vectors, times, (1,))
            residues.residue_sums(Effect.mark((1,), 2), moduli)
            places.residue((7,), moduli)
            fields_of(book.apply_all, commands)
            fields_of(lattices.solutions, vectors * 2, times * 2, (1,))
            fields_of(residues.residue_sums, Effect.still(1), [*moduli, 1])
        self.assertEqual([vectors, times, moduli, commands], before)

    def test_tuples_instead_of_lists(self):
        self.assertEqual(lattices.relations(((1,), (2,))), lattices.relations([(1,), (2,)]))
        self.assertEqual(lattices.solutions(((1,), (2,)), (4, 4), (3,)), lattices.solutions([(1,), (2,)], [4, 4], (3,)))
        self.assertEqual(residues.residue_sums(Effect.mark((7,), 1), (5,)), [((2,), 1)])
        self.assertEqual(places.residue((7, -1), (5, 3)), places.residue((7, -1), [5, 3]))
        book = Book(1)
        book.apply_all((("define", "a", ()), ("define", "b", ())))
        self.assertEqual(len(book), 2)

    def test_lists_and_dicts_that_were_returned(self):
        parts = Parts(1, {"a": BOTH, "b": (("do", "a"),)})
        trail, crew, book = trails.trail_of(parts, BOTH), crew_of(Walker("a", (0,))), Book.of(parts)
        effect = trail.effect()
        queries = (parts.names, parts.blocks, lambda: parts.users("a"), trail.strewings, effect.terms, crew.walkers,
                   lambda: crew.places(1), lambda: residues.residue_sums(effect, [2]), lambda: book.parts.names(),
                   lambda: book.parts.blocks(), lambda: blocks.names_in((("do", "a"),)))
        for query in queries:
            found, again = query(), query()
            self.assertIn(found.__class__, (list, dict))
            self.assertIsNot(found, again)
            self.assertEqual(found, again)
            found.clear()
            self.assertEqual(query(), again)

    def test_values_that_were_returned_are_passed_back(self):
        parts = Parts(2, {"a": (("repeat", FAR, (("put", 5), ("go", (3, -7)))),)})
        for _ in range(3):
            parts = Parts(2, parts.blocks())
        effect = trails.trail_of(parts, parts.block("a")).effect()
        for _ in range(4):
            effect = effect.moved(effect.shift) * effect
        self.assertEqual(effect.amount(compare.difference(effect, Effect.still(2))[0][0]),
                         compare.difference(effect, Effect.still(2))[0][1])
        trail = trails.trail_of(parts, parts.block("a")).repeated(10 ** 90)
        self.assertEqual(trail.visits(trail.effect().terms()[0][1])[1], 0)


class Grounds(unittest.TestCase):
    """Grounds of one, two and three dimensions beside one another."""

    def test_each_has_its_own(self):
        books = [Book(dimension) for dimension in (1, 2, 3)]
        for times in (2, 3):
            for dimension, book in enumerate(books, 1):
                block = (("repeat", times, (("put", dimension), ("go", (1,) * dimension))),)
                (book.redefine if len(book) else book.define)("a", block)
        for dimension, book in enumerate(books, 1):
            effect = book.effect("a")
            self.assertEqual((effect.shift, effect.total), ((3,) * dimension, 3 * dimension))
            self.assertEqual(compare.difference(effect, Effect.still(dimension)),
                             (((0,) * dimension, dimension), ((2,) * dimension, dimension)))
            self.assertEqual(pages.parse_book(pages.format_book(book)), book)
            crew = Crew(book.parts)
            crew.join(Walker("a", (5,) * dimension))
            self.assertEqual(crew.places(4), [(7,) * dimension])
            self.assertEqual(Desk(book=book).ask("end a"), " ".join("3" * dimension))
            self.assertEqual(residues.residue_sums(effect, (2,) * dimension),
                             [((0,) * dimension, 2 * dimension), ((1,) * dimension, dimension)])

    def test_a_walker_on_two_grounds(self):
        walker = Walker("a", (1, 1))
        for dimension in (1, 2, 3, 2, 1):
            parts = Parts(dimension, {"a": (("go", (4,) * dimension),)})
            if dimension == 2:
                self.assertEqual(walker.place_after(parts, 1), (5, 5))
            else:
                self.assertEqual(fields_of(walker.place_after, parts, 1), (errors.InvalidPlace, (1, 1)))

    def test_a_line_lies_in_each_ground(self):
        for axes in ((0,), (0, 1), (1,), (2,), (0, 2)):
            vector = tuple(int(axis in axes) for axis in range(3))
            line, row = (("repeat", FAR, BOTH),), (("repeat", FAR, (("put", 1), ("go", vector))),)
            one, other = effect_of(line), effect_of(row, 3)
            for place in (-1, 0, 5, FAR - 1, FAR):
                there = tuple(place * item for item in vector)
                self.assertEqual(other.amount(there), one.amount((place,)))
            self.assertEqual((other.total, crews.MAX_WALKERS), (one.total, 8))


class Failures(unittest.TestCase):
    def test_a_call_that_raises_changes_nothing(self):
        book, crew = book_of(a=BOTH, b=(("do", "a"),)), crew_of(Walker("a", (0,)))
        book.drop("b")
        book.undo()
        before = (book.parts.blocks(), book.history(), crew.walkers())
        for call in (lambda: book.define("a", ()), lambda: book.redefine("a", (("do", "b"),)),
                     lambda: book.rename("a", "b"), lambda: book.drop("a"), lambda: book.apply(("lose",)),
                     lambda: book.apply_all([("drop", "b"), ("drop", "b")]), lambda: book.trail("x"),
                     lambda: crew.join(Walker("a", (1,)), Walker("x", (0,))), lambda: crew.leave(1),
                     lambda: crew.places(-1), lambda: crew.effect(beat=-1), lambda: beats.split(book.parts, BOTH, 9)):
            self.assertIsNotNone(fields_of(call))
            self.assertEqual((book.parts.blocks(), book.history(), crew.walkers()), before)
        book.redo()
        self.assertEqual(book.parts.names(), ["a"])

    def test_booleans_are_no_numbers(self):
        for block in ((("put", True),), (("go", (False,)),), (("repeat", True, ()),),
                      (("repeat", 1, (("put", False),)),)):
            self.assertFalse(blocks.is_block(block, 1))
            for call in (lambda: Book(1).define("a", block), lambda: beats.split(PARTS, block, 0),
                         lambda: next(beats.walk(PARTS, block)), lambda: Parts(1, {"a": block}),
                         lambda: book_of(a=()).redefine("a", block)):
                self.assertIs(fields_of(call)[0], errors.InvalidBlock)
        for start in ((True,), (False,)):
            self.assertEqual(fields_of(crew_of, Walker("a", start)), (errors.InvalidPlace, start))


if __name__ == "__main__":
    unittest.main()
