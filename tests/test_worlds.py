"""[0.9], [2.1] and [2.2]: worlds."""

import itertools
import unittest

from shownpart.base import worlds
from shownpart.base.facts import read_fact
from shownpart.base.terms import read_term
from shownpart.base.worlds import World, number_of_worlds, worlds_of
from shownpart.books.books import Book
from shownpart.errors import (
    InvalidBook, InvalidFact, InvalidName, InvalidNumber, InvalidOperation, InvalidTerm, InvalidWorld, TooMany,
    UnknownName,
)
from tests import parts, samples
from tests.checks import Case
from tests.parts import FLAT, NO_NUMBERS, ODD, PAIRED, RING, f, g, plain_signature
from tests.samples import A, B

SMALL = World(2, a=(0, {(): 1}), f=(1, {(1,): 1}))
METHODS = {
    "__call__": "(self, term)", "at": "(self, name, *things)", "holds": "(self, fact)", "keeps": "(self, book)",
    "__len__": "(self)", "__contains__": "(self, value)", "__eq__": "(self, other)", "__str__": "(self)",
    "with_table": "(self, name, places, rows)", "only": "(self, *names)", "renamed": "(self, **names)",
    "renamed_by": "(self, names)", "copied": "(self, things)",
}


def told(world):
    return (world.size, world.rest, world.names, world.rows, str(world))


class TestInterface(Case):
    def test_names_and_parameters(self):
        self.same(worlds.MAX_THINGS, 400)
        self.same(plain_signature(World), "(size, rest=0, **tables)")
        self.same(plain_signature(World.of), "(size, rest, tables)")
        self.same(plain_signature(worlds_of), "(size, names)")
        self.same(plain_signature(number_of_worlds), "(size, names)")
        for name, parameters in METHODS.items():
            self.same(plain_signature(vars(World)[name]), parameters)
        for name in ("size", "rest", "names", "rows"):
            self.assertIsInstance(vars(World)[name], property)
        self.assertIsInstance(vars(World)["of"], classmethod)


class TestMade(Case):
    def test_properties(self):
        world = World.of(3, 2, {"f": (2, {(1, 0): 1, (0, 2): 0, (2, 2): 2}), "a": (0, {}), "b": (0, {(): 0})})
        self.same(told(world), (3, 2, {"a": 0, "b": 0, "f": 2}, (("b", 0), ("f", 0, 2, 0), ("f", 1, 0, 1)),
                                "world of 3 things: a, b, f"))
        self.same(told(World(1)), (1, 0, {}, (), "world of 1 things: nothing"))
        self.same([len(World(400)), len(world), World(400, 399).rest], [400, 3, 399])
        self.same(World(2, g=(3, {(1, 0, 1): 1})).rows, (("g", 1, 0, 1, 1),))
        self.same(World(10, f=(1, {(9,): 1, (2,): 1})).rows, (("f", 2, 1), ("f", 9, 1)))

    def test_names_of_parameters_need_the_dict(self):
        world = World.of(2, 1, {"size": (0, {(): 0}), "rest": (1, {}), "self": (0, {}), "tables": (0, {(): 0})})
        self.same(world.names, {"rest": 1, "self": 0, "size": 0, "tables": 0})
        self.same([world(("size",)), world(("rest", ("size",))), world(("tables",))], [0, 1, 0])

    def test_what_is_passed_or_returned_is_copied(self):
        rows = {(1,): 1}
        tables = {"f": (1, rows)}
        world = World.of(2, 0, tables)
        before = told(world)
        rows[(0,)] = 1
        tables["a"] = (0, {})
        world.names["b"] = 0
        world.names.clear()
        self.same(told(world), before)
        self.same([world.at("f", 0), "a" in world], [0, False])
        table = {(): 1}
        further = world.with_table("a", 0, table)
        table[()] = 0
        self.same([further(A), told(world)], [1, before])

    def test_wrong_sizes_and_rests(self):
        for value in NO_NUMBERS:
            for action in (lambda: World(value), lambda: World(value, value, A=1), lambda: World.of(value, value, 1),
                           lambda: next(worlds_of(value, 1)), lambda: number_of_worlds(value, 1)):
                self.assertIs(self.raises(InvalidNumber, action).value, value)
            for action in (lambda: World(2, value), lambda: World(2, value, A=1), lambda: World.of(2, value, 1)):
                self.assertIs(self.raises(InvalidNumber, action).value, value)
        self.same(self.raises(InvalidNumber, World, 0).value, 0)
        self.same(self.raises(InvalidNumber, World, 3, 3).value, 3)
        self.same(self.raises(InvalidNumber, World, 1, 1).value, 1)

    def test_wrong_tables(self):
        wrong = [value for value in ODD if value != {}]
        for value in wrong:
            self.raises(InvalidWorld, World.of, 2, 0, value)
            self.raises(InvalidWorld, World, 2, a=(0, value))
            self.raises(InvalidWorld, World.of, 2, 0, {"a": (0, {}), "f": (1, value)})
        for value in ODD:
            self.raises(InvalidWorld, World, 2, a=value)
            self.raises(InvalidWorld, World, 2, b=(0, {}), a=value)
            if value not in (0, 1) or isinstance(value, bool):
                self.raises(InvalidWorld, World, 2, a=(0, {(): value}))
            if value not in (0, 1, 3) or isinstance(value, bool):
                self.raises(InvalidWorld, World, 2, a=(value, {}))
            if isinstance(value, str):
                self.raises(InvalidWorld, World.of, 2, 0, {value: (0, {})})
        for key in (0, "a", None, True, (), (0, 0), (True,), (2,), (-1,), (None,), ("a",), ((0,),)):
            self.raises(InvalidWorld, World, 2, f=(1, {key: 0}))
        for key in (1, None, True, A, (A, B)):
            self.raises(InvalidWorld, World.of, 2, 0, {key: (0, {})})
        for pair in ((0,), (0, {}, 0), [0, {}], (4, {}), (-1, {}), ({}, 0), (0, ()), (0, [])):
            self.raises(InvalidWorld, World, 2, a=pair)
        self.raises(InvalidWorld, World, 2, f=(2, {(0, 1): 1, (0,): 1}))
        self.raises(InvalidWorld, World, 2, f=(1, {(0,): 2}))


class TestValues(Case):
    def test_terms(self):
        self.same([SMALL(A), SMALL(f(A)), SMALL(f(f(A))), SMALL.at("a"), SMALL.at("f", 0), SMALL.at("f", 1)],
                  [1, 1, 1, 1, 0, 1])
        world = World(3, 2, g=(3, {(0, 1, 2): 0}), a=(0, {(): 0}), b=(0, {(): 1}), c=(0, {}))
        self.same([world(("g", A, B, ("c",))), world(("g", A, B, B)), world.at("g", 0, 1, 2)], [0, 2, 0])

    def test_many_levels(self):
        world = World(3, f=(1, {(0,): 1, (1,): 2}), a=(0, {}))
        self.same([world(samples.chain(many, A, "f")) for many in (0, 1, 2, 3, 39)], [0, 1, 2, 0, 0])
        self.same(world(read_term("f(" * 20000 + "a" + ")" * 20000)), 20000 % 3)
        self.same(World(2, f=(2, {(1, 1): 1}), a=(0, {(): 1}))(samples.full_tree(8)), 1)

    def test_wrong_terms(self):
        for value in [*ODD, B, f(A, A), ("f",), g(A), f(B), f(f(A, A)), ("a", A)]:
            self.raises(InvalidTerm, SMALL, value)

    def test_wrong_names_and_things(self):
        for value in [*ODD, "b", "g", "F"]:
            self.assertIs(self.raises(UnknownName, SMALL.at, value).name, value)
            self.assertIs(self.raises(UnknownName, SMALL.at, value, None, 0).name, value)
        for value in ODD:
            if value not in (0, 1) or isinstance(value, bool):
                self.assertIs(self.raises(InvalidNumber, SMALL.at, "f", value).value, value)
                self.assertIs(self.raises(InvalidNumber, SMALL.at, "f", 0, value, None).value, value)
                self.assertIs(self.raises(InvalidNumber, SMALL.at, "a", value).value, value)
        self.same(self.raises(InvalidNumber, SMALL.at, "f", 2).value, 2)
        for things in ((), (0, 1), (1, 1, 1)):
            self.raises(InvalidWorld, SMALL.at, "f", *things)
        self.raises(InvalidWorld, SMALL.at, "a", 0)

    def test_facts(self):
        for text, holds in (("a=f(a)", True), ("a=b", False), ("a=b => b=f(b)", True), ("a=f(a) => a=b", False),
                            ("never", False), ("a=b => never", True), ("a=f(a) => never", False),
                            ("a=f(a) & b=f(b) => a=b", False), ("a=b & a=f(a) => never", True), ("a=b => a=b", True)):
            self.same(SMALL.with_table("b", 0, {}).holds(read_fact(text)), holds)
        for value in [*ODD, read_fact("a=b"), read_fact("a=f(a,a)"), read_fact("b=c => never"), A]:
            self.raises(InvalidFact, SMALL.holds, value)

    def test_books(self):
        world = World.of(2, 0, {"a": (0, {}), "b": (0, {}), "e": (0, {(): 1}), "f": (2, {(1, 0): 0, (1, 1): 1})})
        for text, keeps in (("", True), ("hidden e\nb=f(e,a)", True), ("hidden e\ne=f(e,a)", False), ("never", False),
                            ("a=b\ne=f(e,e)", True), ("a=b\ne=f(e,a)", False), ("names f/2", True),
                            ("b=f(a,a)\na=e => never", True), ("a=b => never", False), ("a=b => a=e", False)):
            self.same(world.keeps(Book.read(text)), keeps)
        for value in [*[odd for odd in ODD if not isinstance(odd, Book)], RING, PAIRED, Book.read("names f/1"),
                      Book.read("hidden c\nnames c/0"), Book.read("a=f")]:
            self.raises(InvalidBook, world.keeps, value)

    def test_against_plain_definitions(self):
        rows = samples.generator_of(21)
        for _ in range(200):
            book = parts.random_book(rows)
            world = parts.random_world(rows, rows.randint(1, 3), book.names)
            self.same(world.keeps(book), parts.plain_keeps(world, book))
            for fact in book.facts:
                self.same(world.holds(fact), parts.plain_holds(world, fact))
            for node in book.nodes:
                self.same(world(node), parts.plain_value(world, node))


class TestAsAWhole(Case):
    def test_equality_is_by_values(self):
        world = World(2, 1, a=(0, {}), f=(1, {(0,): 0}))
        for other in (World(2, 1, a=(0, {(): 1}), f=(1, {(1,): 1, (0,): 0})),
                      World.of(2, 1, dict(f=(1, {(0,): 0}), a=(0, {}))),
                      world.only("f", "a"), world.copied((0, 1)), world.with_table("a", 0, {(): 1})):
            self.assertTrue(world == other and not world != other)
        for other in (World(2, 0, a=(0, {(): 1}), f=(1, {(1,): 1})), World(2, 1, a=(0, {}), f=(1, {})), World(2, 1),
                      World(3, 1, a=(0, {}), f=(1, {(0,): 0})), World(2, 1, a=(0, {}), f=(2, {(0, 0): 0})),
                      World(2, 1, b=(0, {}), f=(1, {(0,): 0})), World(2, 1, a=(0, {}), f=(1, {(0,): 0}), b=(0, {}))):
            self.assertTrue(world != other and not world == other)
        self.assertFalse(World(2, 0) == World(2, 1))
        self.assertFalse(World(2, f=(1, {})) == World(2, f=(2, {})))
        for value in samples.WRONG:
            self.assertFalse(world == value)
        self.assertFalse(World(1) == Book())

    def test_names_and_no_iteration(self):
        for value in [*ODD, "b", "F"]:
            self.same(value in SMALL, False)
        self.same(["a" in SMALL, "f" in SMALL], [True, True])
        self.raises(TypeError, lambda: iter(SMALL))
        self.raises(TypeError, lambda: list(FLAT))


class TestOthers(Case):
    def test_with_table(self):
        self.same(told(SMALL.with_table("b", 3, {(0, 1, 0): 1})),
                  (2, 0, {"a": 0, "b": 3, "f": 1}, (("a", 1), ("b", 0, 1, 0, 1), ("f", 1, 1)),
                   "world of 2 things: a, b, f"))
        self.same(told(SMALL.with_table("f", 0, {(): 1})), (2, 0, {"a": 0, "f": 0}, (("a", 1), ("f", 1)),
                                                            "world of 2 things: a, f"))
        self.same(SMALL.with_table("f", 1, {}).rows, (("a", 1),))
        before = told(SMALL)
        for value in ODD:
            self.raises(InvalidName, SMALL.with_table, value, value, value)
            if value not in (0, 1, 3) or isinstance(value, bool):
                self.assertIs(self.raises(InvalidNumber, SMALL.with_table, "a", value, value).value, value)
            if value != {}:
                self.raises(InvalidWorld, SMALL.with_table, "a", 0, value)
        self.same(self.raises(InvalidNumber, SMALL.with_table, "a", 4, {}).value, 4)
        self.raises(InvalidWorld, SMALL.with_table, "b", 0, {(): 2})
        self.raises(InvalidWorld, SMALL.with_table, "b", 1, {(): 0})
        self.raises(InvalidWorld, SMALL.with_table, "b", 1, {(True,): 0})
        self.same(told(SMALL), before)

    def test_only(self):
        self.same([told(SMALL.only("a")), told(SMALL.only("f", "f")), told(SMALL.only())],
                  [(2, 0, {"a": 0}, (("a", 1),), "world of 2 things: a"),
                   (2, 0, {"f": 1}, (("f", 1, 1),), "world of 2 things: f"),
                   (2, 0, {}, (), "world of 2 things: nothing")])
        for value in [*ODD, "b"]:
            self.assertIs(self.raises(UnknownName, SMALL.only, "a", value, "c").name, value)

    def test_renamed(self):
        for result in (SMALL.renamed(a="f", f="a", b="a"), SMALL.renamed_by({"a": "f", "f": "a", "b": "a"})):
            self.same(told(result), (2, 0, {"a": 1, "f": 0}, (("a", 1, 1), ("f", 1)), "world of 2 things: a, f"))
        self.assertTrue(SMALL.renamed() == SMALL == SMALL.renamed(c="a"))
        self.same(World.of(1, 0, {"self": (0, {})}).renamed_by({"self": "names"}).names, {"names": 0})
        for value in ODD:
            if value != {}:
                self.raises(InvalidName, SMALL.renamed_by, value)
            self.raises(InvalidName, SMALL.renamed, a="f", b=value)
            self.raises(InvalidName, SMALL.renamed_by, {"c": value})
        for names in ({"a": "f"}, {"f": "b", "a": "b"}, {"f": "a"}):
            self.raises(InvalidOperation, SMALL.renamed_by, names)
            self.raises(InvalidOperation, SMALL.renamed, **names)

    def test_copied(self):
        self.same(told(SMALL.copied((1, 0))),
                  (2, 1, {"a": 0, "f": 1}, (("a", 0), ("f", 0, 0)), "world of 2 things: a, f"))
        world = World(3, 1, f=(2, {(0, 2): 2, (1, 1): 0}), a=(0, {(): 2}))
        copy = world.copied((2, 0, 1))
        self.same([copy.rest, copy(A), copy.at("f", 1, 0), copy.at("f", 2, 2), copy.at("f", 0, 0)], [2, 0, 0, 1, 2])
        for value in [*ODD, (0,), (0, 0), (0, 1, 1), (0, 2), (1, 0, 2), [0, 1], (False, True), (0, True), (-1, 0),
                      (None, 0)]:
            self.raises(InvalidOperation, SMALL.copied, value)
        rows = samples.generator_of(22)
        for _ in range(50):
            size = rows.randint(1, 4)
            world = parts.random_world(rows, size, {"a": 0, "f": 2, "g": 1})
            things = tuple(rows.sample(range(size), size))
            copy = world.copied(things)
            for name, many in world.names.items():
                for row in itertools.product(range(size), repeat=many):
                    self.same(things[copy.at(name, *row)], world.at(name, *[things[thing] for thing in row]))
            self.same(things[copy.rest], world.rest)
            back = tuple(things.index(thing) for thing in range(size))
            self.assertTrue(copy.copied(back) == world)


class TestAllWorlds(Case):
    def test_each_once(self):
        for size, names, many in ((1, {}, 1), (3, {}, 1), (1, {"a": 0, "f": 3}, 1), (2, {"a": 0}, 2), (3, {"f": 1}, 27),
                                  (2, {"f": 2, "a": 0, "b": 0}, 64), (2, {"g": 3}, 256), (3, {"a": 0, "f": 1}, 81)):
            found = list(worlds_of(size, names))
            self.same([len(found), number_of_worlds(size, names)], [many, many])
            self.assertEqual(len({world.rows for world in found}), many)
            for world in found:
                self.same([world.size, world.rest, world.names], [size, 0, dict(sorted(names.items()))])

    def test_where_nobody_could_wait_for_all(self):
        many = worlds_of(400, {"f": 3, "a": 0, "g": 3})
        first, second = next(many), next(many)
        self.assertFalse(first == second)
        self.same([first.size, first.names], [400, {"a": 0, "f": 3, "g": 3}])
        self.assertEqual(len({next(many).rows for _ in range(2000)} | {first.rows, second.rows}), 2002)

    def test_two_of_them_at_once(self):
        names = {"a": 0, "f": 1}
        one, other = worlds_of(2, names), worlds_of(2, names)
        found = [next(one)]
        names.clear()
        names.update({"b": 0})
        found.append(next(one))
        self.same([world.names for world in found], [{"a": 0, "f": 1}] * 2)
        names.clear()
        names.update({"a": 0, "f": 1})
        self.same([world.rows for world in other], [world.rows for world in [*found, *one]])

    def test_numbers(self):
        self.same(number_of_worlds(10, {name[0]: 0 for name in parts.cells(99)}), 10 ** 99)
        self.same(number_of_worlds(2, {"f": 3, "g": 3, "h": 3, "k": 2}), 2 ** 28)
        self.same(number_of_worlds(1, {"f": 3}), 1)
        names = {name[0]: 0 for name in parts.cells(100)}
        self.same(self.raises(TooMany, number_of_worlds, 10, names).limit, 100)
        self.same(self.raises(TooMany, number_of_worlds, 400, {"f": 3}).limit, 100)
        # 2 ** 332 has 100 digits, 2 ** 333 has 101.
        names = {name[0]: 0 for name in parts.cells(332)}
        self.same(number_of_worlds(2, names), 2 ** 332)
        self.same(self.raises(TooMany, number_of_worlds, 2, {**names, "a": 0}).limit, 100)

    def test_wrong_names(self):
        for value in ODD:
            if value not in ({}, {"a": 1}):
                self.raises(InvalidName, next, worlds_of(2, value))
                self.raises(InvalidName, number_of_worlds, 2, value)
            if value not in (0, 1, 3) or isinstance(value, bool):
                self.raises(InvalidName, number_of_worlds, 400, {"f": 3, "a": value})
                self.raises(InvalidName, next, worlds_of(2, {"f": 3, "a": value}))
            if isinstance(value, str):
                self.raises(InvalidName, number_of_worlds, 2, {value: 0})


if __name__ == "__main__":
    unittest.main()
