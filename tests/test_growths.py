"""[0.11], [7.1] to [7.4]: growths of worlds."""

import itertools
import unittest

from shownpart.base.facts import is_fact, places_in, read_fact
from shownpart.base.worlds import World, worlds_of
from shownpart.books.books import Book
from shownpart.closing.closing import Closing, is_empty
from shownpart.closing.follows import follow_paper, follows, is_follow_paper
from shownpart.errors import InvalidBook, InvalidOperation, InvalidTerm, InvalidWorld
from shownpart.growths import growths
from shownpart.growths.growths import (
    carries, grown, growth_paper, images, is_growth, is_growth_paper, value_at,
)
from tests import parts, samples
from tests.checks import Case
from tests.parts import APART, EMPTY, FLAT, GATES, NEVER, ODD, PAIRED, RING, f, g, loose, plain_signature
from tests.samples import A, B, C, E

INTERFACE = {
    "carries": "(book, world)", "grown": "(book, world)", "is_growth": "(book, world, value)",
    "images": "(book, world, growth)", "growth_paper": "(book, world)", "is_growth_paper": "(book, world, value)",
    "value_at": "(book, world, term)",
}
BENT = FLAT.with_table("f", 2, {})


def with_nodes(book, term):
    """The book with a fact that says nothing, but has a term among its nodes."""
    other = ("zz",)
    fact = ((((term, other)),), (term, other)) if term < other else (((other, term),), (other, term))
    return book.with_facts(fact).hide("zz")


def all_growths(book, world, size):
    """All growths of a world with so many things, all names of the book, and the rest 0, in which the book holds."""
    names = {**world.names, **book.names}
    rows = []
    for name, many in names.items():
        for things in itertools.product(range(size), repeat=many):
            old = name in world and all(thing < world.size for thing in things)
            rows.append((name, things, [world.at(name, *things)] if old else range(size)))
    for values in itertools.product(*[row[2] for row in rows]):
        tables = {name: (many, {}) for name, many in names.items()}
        for (name, things, _), value in zip(rows, values):
            tables[name][1][things] = value
        growth = World.of(size, 0, tables)
        if parts.plain_keeps(growth, book):
            yield growth


class TestInterface(Case):
    def test_names_and_parameters(self):
        for name, parameters in INTERFACE.items():
            action = getattr(growths, name)
            self.same([plain_signature(action), action.__module__], [parameters, "shownpart.growths.growths"])


class TestErrors(Case):
    def test_wrong_books_and_worlds(self):
        actions = [carries, grown, growth_paper, *[
            lambda book, world, action=action: action(book, world, 1) for action in (
                is_growth, images, is_growth_paper, value_at)]]
        no_worlds = [value for value in ODD if not isinstance(value, World)]
        for action in actions:
            for value in ODD:
                if not isinstance(value, Book):
                    self.raises(InvalidBook, action, value, FLAT)
                    self.raises(InvalidBook, action, value, value)
            for value in [*no_worlds, World(1), FLAT.only("a", "b", "f"), FLAT.with_table("f", 1, {}),
                          FLAT.with_table("a", 1, {}), FLAT.with_table("e", 0, {}), FLAT.with_table("e", 2, {})]:
                self.raises(InvalidWorld, action, RING, value)
            self.raises(InvalidWorld, action, Book(names={"z": 0}), FLAT)

    def test_wrong_terms_and_growths(self):
        for value in [*ODD, ("z",), f(A), ("e", A), f(A, ("z",)), ("a", A)]:
            self.raises(InvalidTerm, value_at, RING, FLAT, value)
            self.raises(InvalidTerm, value_at, RING, BENT, value)
        for term in (A, E, f(A, A)):
            self.raises(InvalidOperation, value_at, RING, BENT, term)
            self.raises(InvalidOperation, value_at, EMPTY, World(1, a=(0, {}), b=(0, {}), f=(1, {})), A)
        for value in [*ODD, FLAT, grown(RING, APART).only("a"), grown(PAIRED, World(1, a=(0, {}), b=(0, {}), c=(0, {}),
                                                                                    d=(0, {}), f=(2, {})))]:
            self.raises(InvalidOperation, images, RING, FLAT, value)
            self.raises(InvalidOperation, images, RING, BENT, value)

    def test_judges_accept_every_value(self):
        for value in [*ODD, FLAT, RING, ("growth",), ("growth", value_at), ("fact", NEVER), ("fact", NEVER, ())]:
            for world in (FLAT, BENT):
                if not (isinstance(value, World) and value == grown(RING, FLAT)):
                    self.same(is_growth(RING, world, value), False)
                self.same([is_growth_paper(RING, world, value), is_growth_paper(RING, world, ("growth", value)),
                           is_growth_paper(RING, world, ("fact", value, value)),
                           is_growth_paper(RING, world, ("fact", NEVER, value))], [False] * 4)


class TestGrown(Case):
    def test_free_growths(self):
        growth = grown(RING, FLAT)
        self.assertTrue(growth == FLAT.with_table("e", 0, {(): 1}))
        growth = grown(RING, APART)
        self.assertTrue(growth == World.of(4, 0, {
            "a": (0, {}), "b": (0, {(): 1}), "c": (0, {(): 2}), "e": (0, {(): 3}),
            "f": (2, {(1, 0): 1, (3, 0): 1, (3, 2): 3})}))
        self.same(grown(RING, BENT), None)

    def test_further_things_by_least_nodes(self):
        book = loose("e h k", "e=h => a=b", "h=k(e)", "k(h)=k(k(h))", z=1)
        world = World.of(2, 1, {"a": (0, {(): 0}), "b": (0, {}), "z": (1, {(0,): 0})})
        growth = grown(book, world)
        # Behind the two things stand e, then h with k(e), then k(h).
        self.assertTrue(growth == World.of(5, 1, {
            "a": (0, {(): 0}), "b": (0, {}), "z": (1, {(0,): 0}), "e": (0, {(): 2}), "h": (0, {(): 3}),
            "k": (1, {(2,): 3, (3,): 4, (4,): 4})}))
        self.same(images(book, world, growth), (0, 1, 2, 3, 4))

    def test_the_greatest_world_that_can_be_made(self):
        world = World.of(400, 399, {"a": (0, {(): 17}), "b": (0, {}), "c": (0, {(): 3}), "f": (2, {(5, 17): 399})})
        growth = grown(RING, world)
        self.same([growth.size, growth(E), carries(RING, world)], [401, 400, True])
        self.same([is_growth(RING, world, growth), growth_paper(RING, world)[0], images(RING, world, growth)],
                  [True, "growth", tuple(range(401))])
        self.same(is_growth_paper(RING, world, growth_paper(RING, world)), True)
        # What is greater than a world that can be made can be passed on.
        again = grown(Book.read("hidden h\na=g(h)"), growth.with_table("g", 1, {}))
        self.same([again.size, value_at(Book.read("hidden h\na=g(h)"), growth.with_table("g", 1, {}), ("h",))],
                  [402, None])
        flat = world.with_table("c", 0, {(): 17})
        self.same([carries(RING, flat), carries(RING, flat.with_table("f", 2, {(399, 17): 0}))], [True, False])

    def test_further_names_of_the_world(self):
        world = APART.with_table("z", 1, {(1,): 2}).with_table("y", 0, {(): 2})
        growth = grown(RING, world)
        self.same([growth.names, growth(("z", B)), growth(("z", E)), value_at(RING, world, ("z", f(E, A)))],
                  [{"a": 0, "b": 0, "c": 0, "e": 0, "f": 2, "y": 0, "z": 1}, 2, 0, 2])
        self.same([value_at(RING, world, term) for term in (("y",), ("z", E), f(("y",), A), f(("z", B), C))],
                  [2, None, 0, 0])
        self.same([is_growth(RING, world, growth), is_growth(RING, world, growth.only("a", "b", "c", "e", "f", "z"))],
                  [True, False])
        self.same([is_growth(RING, APART, growth), images(RING, APART, growth)], [True, (0, 1, 2, 3)])
        self.assertTrue(grown(RING, APART) == growth.only("a", "b", "c", "e", "f"))

    def test_books_without_hidden_names_and_without_facts(self):
        book = loose("", "a=c => b=f(b,c)")
        self.same([carries(book, FLAT), grown(book, FLAT) == FLAT, carries(book, BENT)], [True, True, False])
        self.same([grown(Book(), World(1)) == World(1), images(Book(), World(2), World(2))], [True, (0, 1)])
        names = Book(names={"a": 0, "h": 2}, hidden=("h",))
        world = World(2, a=(0, {(): 1}))
        self.assertTrue(grown(names, world) == world.with_table("h", 2, {}))
        self.same(value_at(names, world, ("h", A, A)), None)
        self.same([value_at(names, world, A), value_at(Book(), world, A)], [1, 1])

    def test_empty_books(self):
        world = World(2, a=(0, {}), b=(0, {}), f=(1, {}))
        self.same([carries(EMPTY, world), grown(EMPTY, world), growth_paper(EMPTY, world)],
                  [False, None, ("fact", NEVER, ((None, "fact", (NEVER, ())),))])
        book = loose("e", "a=e", "b=e", "a=b => never")
        self.same([carries(book, World(1, a=(0, {}), b=(0, {}))), growth_paper(book, world)[1]], [False, NEVER])


class TestIsGrowth(Case):
    def test_other_growths(self):
        growth = grown(RING, APART)
        for other, told in ((growth, True), (growth.with_table("e", 0, {(): 1}), False),
                            (growth.with_table("z", 3, {}), True),
                            (growth.with_table("f", 2, {(1, 0): 1, (3, 0): 1, (3, 2): 3, (3, 3): 2, (0, 3): 1}), True),
                            (growth.with_table("f", 2, {(1, 0): 1, (3, 0): 1, (3, 2): 3, (2, 2): 2}), False),
                            (growth.with_table("f", 2, {(1, 0): 1, (3, 0): 1}), False), (APART, False),
                            (growth.with_table("a", 0, {(): 3}), False), (growth.only("a", "b", "c", "f"), False)):
            self.same([is_growth(RING, APART, other), is_growth_paper(RING, APART, ("growth", other))], [told, told])
        self.same([is_growth(RING, APART, grown(RING, FLAT)), is_growth(RING, FLAT, growth)], [False, False])
        self.same(is_growth(PAIRED, World(1, a=(0, {}), b=(0, {}), c=(0, {}), d=(0, {}), f=(2, {})), World(
            1, a=(0, {}), b=(0, {}), c=(0, {}), d=(0, {}), f=(1, {}), e=(0, {}))), False)

    def test_growths_with_another_rest(self):
        book, world = loose("e", "e=g(a)"), World.of(2, 0, {"a": (0, {}), "g": (1, {(1,): 1})})
        rows = {(0,): 0, (1,): 1}
        for other, told in ((World.of(3, 2, {"a": (0, {(): 0}), "g": (1, rows), "e": (0, {(): 0})}), True),
                            (World.of(3, 2, {"a": (0, {(): 0}), "g": (1, {(0,): 0}), "e": (0, {(): 0})}), False),
                            (World.of(3, 2, {"a": (0, {}), "g": (1, rows), "e": (0, {(): 0})}), False),
                            (World.of(2, 1, {"a": (0, {(): 0}), "g": (1, {(0,): 0}), "e": (0, {(): 0})}), True),
                            (World.of(2, 1, {"a": (0, {(): 0}), "g": (1, {}), "e": (0, {})}), False),
                            (World.of(3, 0, {"a": (0, {}), "g": (1, {(1,): 1, (2,): 2}), "e": (0, {})}), True),
                            (World.of(1, 0, {"a": (0, {}), "g": (1, {}), "e": (0, {})}), False)):
            self.same(is_growth(book, world, other), told)

    def test_smaller_worlds(self):
        book = Book(names={"a": 0})
        self.same([is_growth(book, World(2, a=(0, {})), World(size, a=(0, {}))) for size in (1, 2, 3)],
                  [False, True, True])

    def test_images(self):
        book = loose("e h", "a=f(e,h)", "b=f(h,e)")
        world = World(2, a=(0, {}), b=(0, {(): 1}), f=(2, {(1, 0): 1}))
        free = grown(book, world)
        self.same([free.size, images(book, world, free)], [4, (0, 1, 2, 3)])
        other = World.of(5, 4, {"a": (0, {(): 0}), "b": (0, {(): 1}), "e": (0, {(): 0}), "h": (0, {(): 1}),
                                "f": (2, {(1, 0): 1, (0, 0): 0, (0, 1): 0, (1, 1): 0})})
        self.same([is_growth(book, world, other), images(book, world, other)], [True, (0, 1, 0, 1)])
        other = free.copied((0, 1, 3, 2))
        self.same(images(book, world, other), (0, 1, 3, 2))


class TestPapers(Case):
    def test_facts_that_fail(self):
        kind, fact, rows = growth_paper(RING, BENT)
        self.same([kind, is_growth_paper(RING, BENT, (kind, fact, rows)), BENT.holds(fact)], ["fact", True, False])
        self.assertFalse(set(places_in(fact)) & {"e"})
        shut = read_fact("a=c => b=f(b,c)")
        rows = follow_paper(RING, shut)[1]
        self.same(is_growth_paper(RING, BENT, ("fact", shut, rows)), True)
        self.same(is_growth_paper(RING, FLAT, ("fact", shut, rows)), False)
        self.same(is_growth_paper(RING, BENT, ("fact", shut, rows[:-1])), False)
        self.same(is_growth_paper(RING, BENT, ("fact", read_fact("b=f(b,c)"), rows)), False)
        hidden = read_fact("a=c => b=f(e,c)")
        self.same(is_growth_paper(RING, BENT, ("fact", hidden, follow_paper(RING, hidden)[1])), False)
        self.same(is_growth_paper(RING, BENT, ("fact", shut, ("steps", rows))), False)
        self.same(is_growth_paper(RING, BENT, ("steps", shut, rows)), False)
        self.same(is_growth_paper(RING, BENT, ["fact", shut, rows]), False)
        world = BENT.with_table("z", 0, {(): 1})
        self.same(is_growth_paper(RING, world, ("fact", shut, rows)), True)
        further = read_fact("a=c => b=z")
        self.same(is_growth_paper(RING, world, ("fact", further, rows)), False)

    def test_papers_of_other_forms(self):
        growth = grown(RING, FLAT)
        self.same(is_growth_paper(RING, FLAT, ("growth", growth)), True)
        for paper in (("fact", growth), ("growths", growth), (growth, "growth"), ("growth", growth, ()), growth,
                      ["growth", growth], ("growth", (growth,)), ("", growth)):
            self.same(is_growth_paper(RING, FLAT, paper), False)

    def test_rows_whose_conditions_fail_in_the_book(self):
        book = loose("e", "a=e", "b=e => never", c=0)
        world = World(2, a=(0, {}), b=(0, {}), c=(0, {(): 1}))
        fact = read_fact("a=b => a=c")
        rows = follow_paper(book, fact)[1]
        self.same([rows[-1][0], is_growth_paper(book, world, ("fact", fact, rows))], [None, True])
        self.same(is_growth_paper(book, world, ("fact", read_fact("a=b => never"), rows)), True)
        self.same([growth_paper(book, world)[0], is_growth_paper(book, world, growth_paper(book, world))],
                  ["fact", True])
        self.same(is_growth_paper(book, world.with_table("c", 0, {}), ("fact", fact, rows)), False)

    def test_values_of_things_that_fall_together(self):
        book = loose("e h", "a=f(e,b)", "b=f(e,c)", "h=f(e,a)", "h=c => never")
        for values in itertools.product(range(3), repeat=3):
            world = World.of(3, 0, {name: (0, {(): value}) for name, value in zip("abc", values)} | {"f": (2, {})})
            paper = growth_paper(book, world)
            self.same([is_growth_paper(book, world, paper), paper[0] == "growth"], [True, carries(book, world)])


class TestAgainstPlainDefinitions(Case):
    def test_over_all_growths(self):
        rows = samples.generator_of(71)
        found = {True: 0, False: 0, None: 0, "thing": 0}
        for names in (("a", "b", "e"), ("a", "g", "e"), ("a", "b", "h", "e"), ("a", "k")):
            for _ in range(25):
                book = parts.random_book(rows, names, rows.randint(1, 3), 1)
                if len(Closing(book).classes) - len(Closing(book).known) > 2:
                    continue
                for world in worlds_of(rows.randint(1, 2), parts.visible_places(book)):
                    self.check_world(book, world, found)
        self.assertGreater(min(found.values()), 20)

    def check_world(self, book, world, found):
        told = [growth for more in range(3) for growth in all_growths(book, world, world.size + more)]
        found[bool(told)] += 1
        self.same([carries(book, world), grown(book, world) is not None], [bool(told)] * 2)
        if not told:
            return
        free = grown(book, world)
        for growth in told:
            self.assertTrue(is_growth(book, world, growth))
            image = images(book, world, growth)
            self.same([image[:world.size], len(image)], [tuple(range(world.size)), free.size])
            for node in book.nodes:
                self.same(image[free(node)], growth(node))
        for term in book.nodes:
            values = {growth(term) for growth in told}
            value = value_at(book, world, term)
            found[None if value is None else "thing"] += 1
            if value is None:
                self.assertGreaterEqual(max(values), world.size)
            else:
                self.assertEqual(values, {value})

    def test_random_books(self):
        rows = samples.generator_of(72)
        found = {True: 0, False: 0}
        for _ in range(250):
            book = parts.random_book(rows)
            for size in (1, 2, 3, 4):
                world = parts.random_world(rows, size, parts.visible_places(book))
                found[self.check(rows, book, world)] += 1
            closing = Closing(book, *[parts.random_pair(rows, 1, list(book.visible)) for _ in range(2)])
            if closing:
                world = closing.world().only(*book.visible)
                self.same(carries(book, world), True)
                self.same(is_growth(book, world, closing.world()), True)
                self.check(rows, book, world)
        self.assertGreater(min(found.values()), 100)

    def check(self, rows, book, world):
        told = carries(book, world)
        paper = growth_paper(book, world)
        self.same([paper[0], is_growth_paper(book, world, paper)], ["growth" if told else "fact", True])
        if told:
            free = grown(book, world)
            self.assertTrue(paper[1] == free and parts.plain_keeps(free, book))
            self.check_value(rows, book, world)
        else:
            self.same([grown(book, world), is_fact(paper[1]), world.holds(paper[1])], [None, True, False])
            self.assertTrue(follows(book, paper[1]) and set(places_in(paper[1])) <= set(book.visible))
            self.assertTrue(is_follow_paper(book, paper[1], ("steps", paper[2])))
            self.assertTrue(is_empty(book) or paper[1] != NEVER)
        return told

    def check_value(self, rows, book, world):
        for _ in range(3):
            term = parts.random_term(rows, 2, list(book.names))
            value = value_at(book, world, term)
            # In the free growth of a book that has the term as a node it is a new thing where it is not told.
            thing = grown(with_nodes(book, term), world)(term)
            self.same(value, thing if thing < world.size else None)

    def test_great_books(self):
        book = Book(*parts.book_of_nodes(60)).hide("xaa", "xab", "xac")
        more = Book(*parts.book_of_nodes(60)).renamed_by({name: "y" + name[1:] for name in book.names}).hide("yad")
        both = book | more
        world = World.of(2, 0, {name: (0, {}) for name in both.visible})
        paper = growth_paper(both, world)
        self.same([carries(both, world), paper[0], value_at(both, world, ("yad",))], [True, "growth", 0])
        # xaa and xab have no visible reading: both are one new thing.
        self.same([grown(both, world).size, value_at(both, world, ("xaa",)), value_at(both, world, ("xac",))],
                  [3, None, 0])
        other = world.with_table("xad", 0, {(): 1}).with_table("xaf", 0, {(): 1})
        paper = growth_paper(both, other)
        self.same([paper[0], is_growth_paper(both, other, paper)], ["fact", True])
        self.same([carries(GATES, World(1, a=(0, {}), b=(0, {}), c=(0, {}), d=(0, {}), g=(1, {}))), g(A)[0]],
                  [True, "g"])


if __name__ == "__main__":
    unittest.main()
