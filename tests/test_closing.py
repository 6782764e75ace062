"""[0.14], [0.15], [5.1] and [5.2]: closings."""

import unittest

from shownpart.base.facts import read_fact
from shownpart.base.terms import levels, places_of, read_term, size_of
from shownpart.base.worlds import World
from shownpart.books.books import Book
from shownpart.closing.closing import Closing, is_empty, joined_pairs
from shownpart.errors import InvalidBook, InvalidFact, InvalidOperation, InvalidTerm
from tests import parts, samples
from tests.checks import Case
from tests.parts import EMPTY, GATES, ODD, PAIRED, RING, f, g, loose, plain_signature
from tests.samples import A, B, C, D, E

H = ("h",)
METHODS = {
    "__len__": "(self)", "__contains__": "(self, value)", "__bool__": "(self)", "__str__": "(self)",
    "class_of": "(self, term)", "equal": "(self, term, other)", "reading": "(self, term)", "world": "(self)",
}
FAILED = Closing(Book.read("a=f(c)\na=b => never"), (A, B))


def told(closing):
    return (closing.nodes, closing.classes, closing.has_failed, closing.known, str(closing))


class TestInterface(Case):
    def test_names_and_parameters(self):
        self.same(plain_signature(Closing), "(book, *pairs, terms=())")
        self.same(plain_signature(Closing.of), "(book, pairs, terms)")
        self.same([plain_signature(is_empty), plain_signature(joined_pairs)], ["(book)", "(closing)"])
        for name, parameters in METHODS.items():
            self.same(plain_signature(vars(Closing)[name]), parameters)
        for name in ("nodes", "classes", "has_failed", "known"):
            self.assertIsInstance(vars(Closing)[name], property)
        self.assertIsInstance(vars(Closing)["of"], classmethod)


class TestMade(Case):
    def test_properties(self):
        for closing in (Closing(RING, (C, A), terms=(g(B),)), Closing.of(RING, ((C, A), (A, A), (A, C)), (g(B), A))):
            self.same(told(closing), (
                (A, B, C, E, f(E, A), f(E, C), g(B)), ((A, C), (B, E, f(E, A), f(E, C)), (g(B),)), False,
                ((A, C), (B, E, f(E, A), f(E, C)), (g(B),)), "closing with 3 classes"))
            self.same([len(closing), bool(closing)], [3, True])
        self.same(told(Closing(Book())), ((), (), False, (), "closing with 0 classes"))
        self.same(told(Closing(PAIRED)), (
            (A, B, C, D, E, f(E, A), f(E, C)), ((A,), (B, f(E, A)), (C,), (D, f(E, C)), (E,)), False,
            ((A,), (B, f(E, A)), (C,), (D, f(E, C))), "closing with 5 classes"))

    def test_equal_pairs_bring_nodes(self):
        self.same(Closing(Book(), (f(A), f(A))).classes, ((A,), (f(A),)))
        self.same(Closing(Book(), (f(A), f(B)), (A, B)).classes, ((A, B), (f(A), f(B))))

    def test_a_closing_that_failed_has_classes(self):
        self.same(told(FAILED), ((A, B, C, f(C)), ((A, B, f(C)), (C,)), True, ((A, B, f(C)), (C,)),
                                 "closing that failed"))
        self.same([len(FAILED), bool(FAILED), FAILED.equal(g(A), g(f(C))), FAILED.reading(f(C)) in (A, B, f(C))],
                  [2, False, True, True])
        self.same(FAILED.class_of(B), (A, B, f(C)))
        closing = Closing(Book.read("never\na=b => b=c"), (A, B))
        self.same([closing.has_failed, closing.classes], [True, ((A, B, C),)])

    def test_facts_that_wait_against_their_order(self):
        book = Book.read("a=c => a=d\na=d => a=g\nb=e => a=c")
        self.same(Closing(book).classes, ((A,), (B,), (C,), (D,), (E,), (("g",),)))
        self.same(Closing(book, (E, B)).classes, ((A, C, D, ("g",)), (B, E)))
        terms = parts.cells(40, "u")
        facts = [((((terms[k], terms[k + 1])),), (terms[k - 1], terms[k])) for k in range(1, 39)]
        closing = Closing(Book(*facts), (terms[38], terms[39]))
        self.same(closing.classes, (tuple(terms),))
        self.same(len(Closing(Book(*facts), (terms[37], terms[39]))), 39)

    def test_wrong_values(self):
        for value in ODD:
            if not isinstance(value, Book):
                self.raises(InvalidBook, Closing, value, 1, terms=1)
                self.raises(InvalidBook, Closing.of, value, 1, 1)
                self.raises(InvalidBook, is_empty, value)
            if value not in ((A, A), (B, A)):
                self.raises(InvalidFact, Closing, RING, (A, f(A)), value, terms=1)
                self.raises(InvalidFact, Closing.of, RING, (value,), 1)
                self.raises(InvalidFact, Closing, RING, (A, value))
            if value != ():
                self.raises(InvalidTerm, Closing, RING, (A, f(A)), terms=(A, value))
            if value not in ((), (("a",),), (A, A), (B, A), (A, B, C), (A,)):
                self.raises(InvalidFact, Closing.of, RING, value, 1)
                self.raises(InvalidTerm, Closing, RING, terms=value)
                self.raises(InvalidTerm, Closing.of, RING, ((A, f(A)),), value)
        for value in ([], [(A, B)], A, (A, B)):
            self.raises(InvalidFact, Closing.of, RING, value, ())
        for value in ([A], A, {A: True}):
            self.raises(InvalidTerm, Closing, RING, terms=value)

    def test_unlike_places(self):
        for pairs, terms in ((((A, f(A)),), ()), (((B, ("a", B)),), ()), ((), (f(A),)), ((), (("e", A),)),
                             (((f(A), f(A, B)),), ()), (((g(A), A),), (g(A, B),)), ((), (g(A), g(A, B))),
                             (((g(A), A), (A, g(A, A))), ())):
            self.raises(InvalidBook, Closing, RING, *pairs, terms=terms)
            self.raises(InvalidBook, Closing.of, RING, pairs, terms)
        self.raises(InvalidBook, Closing, Book(names={"g": 1}), terms=(g(A, A),))


class TestTerms(Case):
    def test_class_of(self):
        closing = Closing(PAIRED, (A, C), terms=(g(A),))
        for told_class in closing.classes:
            for node in told_class:
                self.same([closing.class_of(node), node in closing], [told_class, True])
        for value in [*ODD, f(A, A), f(A), g(C), H, f(E, B), ("e", A), g(A, A), ("g",)]:
            self.raises(InvalidTerm, closing.class_of, value)
            self.raises(InvalidTerm, closing.reading, value)
            self.same(value in closing, False)

    def test_equal(self):
        closing = Closing(RING, (C, A))
        for one, other, equal in ((A, C, True), (A, B, False), (B, E, True), (f(B, C), B, True),
                                  (f(E, B), f(B, E), True), (f(E, B), f(B, A), False),
                                  (f(E, B), f(B, B), True), (g(A), g(C), True), (g(A), g(B), False),
                                  (g(f(B, A)), g(E), True),
                                  (H, H, True), (H, A, False), (g(H), g(H), True), (f(H, H), f(H, H), True),
                                  (g(g(H)), g(H), False), (("s", A, A, H), ("s", C, A, H), True)):
            self.same([closing.equal(one, other), closing.equal(other, one)], [equal, equal])
            self.same(closing.equal(one, other), Closing(RING, (C, A), terms=(one, other)).equal(one, other))
        self.same(told(closing), told(Closing(RING, (C, A))))
        ring = Closing(Book.read("a=f(f(f(a)))"), (f(f(A)), A))
        self.same([ring.equal(samples.chain(30, A, "f"), A), ring.equal(f(B), B)], [True, False])
        for value in [*ODD, f(A), ("e", A), g(A, g(A))]:
            self.raises(InvalidTerm, closing.equal, value, A)
            self.raises(InvalidTerm, closing.equal, A, value)
            self.raises(InvalidTerm, closing.equal, value, value)
        self.raises(InvalidTerm, closing.equal, g(A), g(A, B))
        self.raises(InvalidTerm, Closing(Book(), terms=(g(A),)).equal, A, ("g",))
        self.raises(InvalidTerm, Closing(Book(names={"z": 1})).equal, A, ("z",))

    def test_readings(self):
        self.same([Closing(RING).reading(node) for node in (A, B, C, E, f(E, C))], [A, B, C, None, None])
        met = Closing(RING, (A, C))
        self.same([met.reading(E), met.reading(f(E, C))], [B, B])
        towers = Closing(loose("e h", "a=e", "h=f(e,e)"), terms=(f(H, E), g(g(H)), ("k",)))
        self.same([towers.reading(H), towers.reading(f(H, E)), towers.reading(g(g(H))), towers.reading(("k",))],
                  [f(A, A), f(f(A, A), A), g(g(f(A, A))), ("k",)])
        self.same(Closing(loose("g", "a=e", "h=g(a)")).known, ((A, E), (g(A), H)))
        self.same(Closing(loose("g h", "a=e", "h=g(a)")).known, ((A, E),))
        self.same(Closing(loose("e", "e=f(e)")).known, ())

    def test_the_least_reading_counts(self):
        # Each further term is twice as great, but the last one has a small reading, too.
        rows = [f"f(h{x},h{x})=h{y}" for x, y in zip("abcde", "bcdeg")]
        closing = Closing(loose("ha hb hc hd he hg", "a=ha", "b=hg", *rows))
        self.same([size_of(closing.reading((name,))) for name in ("ha", "hb", "hc", "hd", "he", "hg")],
                  [1, 3, 7, 15, 31, 1])

    def test_many_levels(self):
        deep = read_term("s(" * 3000 + "a" + ")" * 3000)
        closing = Closing(Book.read("a=s(s(s(a)))"), terms=(deep,))
        self.same([len(closing), len(closing.nodes), closing.equal(deep, A), closing.equal(("s", deep), ("s", A))],
                  [3, 3001, True, True])
        self.same([closing.reading(deep), deep in closing, ("s", deep) in closing, closing.world()(deep)],
                  [A, True, False, 0])
        closing = Closing(Book(names={"s": 1}), (deep, B))
        self.same([len(closing), closing.reading(deep), len(closing.class_of(deep))], [3001, B, 2])
        closing = Closing(Book(), terms=(deep,))
        self.same([levels(closing.reading(deep)), closing.world().size], [3001, 3002])


class TestWorlds(Case):
    def test_closed_worlds(self):
        world = Closing(RING, (C, A), (H, g(D)), terms=(g(B),)).world()
        # The classes are those of a, b, d, g(b) and g(d).
        self.same([world.size, world.rest, world.names],
                  [6, 5, {"a": 0, "b": 0, "c": 0, "d": 0, "e": 0, "f": 2, "g": 1, "h": 0}])
        self.same(world.rows, (("a", 0), ("b", 1), ("c", 0), ("d", 2), ("e", 1), ("f", 1, 0, 1), ("g", 1, 3),
                               ("g", 2, 4),
                               ("h", 4)))
        self.same([world(term) for term in (f(E, A), f(A, A), g(D), g(E), g(H))], [1, 5, 4, 3, 5])
        self.same(Closing(Book(names={"a": 0, "f": 3})).world() == World(1, a=(0, {}), f=(3, {})), True)
        self.raises(InvalidOperation, FAILED.world)
        self.raises(InvalidOperation, Closing(EMPTY).world)

    def test_rows_of_a_closed_world(self):
        world = Closing(PAIRED, terms=(g(B), H)).world()
        # a, b = f(e, a), c, d = f(e, c), e, g(b), h, and the rest.
        self.same(world == World.of(8, 7, {
            "a": (0, {(): 0}), "b": (0, {(): 1}), "c": (0, {(): 2}), "d": (0, {(): 3}), "e": (0, {(): 4}),
            "f": (2, {(4, 0): 1, (4, 2): 3}), "g": (1, {(1,): 5}), "h": (0, {(): 6})}), True)

    def test_empty_books(self):
        for lines, empty in (((), False), (("never",), True), (("a=b",), False), (("a=b => never",), False),
                             (("a=b", "a=b => never"), True), (("a=e", "b=e", "a=b => never"), True),
                             (("a=e", "a=b => never", "b=f(e)"), False), (("a=b", "f(a)=f(b) => never"), True),
                             (("a=b => never", "a=f(a)", "b=f(f(a))"), True)):
            self.same(is_empty(loose("", *lines)), empty)
            if lines and "e" in lines[0]:
                self.same(is_empty(loose("", *lines, e=0).hide("e")), empty)

    def test_joined_pairs(self):
        self.same(joined_pairs(Closing(RING, (C, A))), ((A, C), (B, E), (B, f(E, A)), (B, f(E, C))))
        self.same([joined_pairs(Closing(Book())), joined_pairs(FAILED)], [(), ((A, B), (A, f(C)))])
        for value in ODD:
            if not isinstance(value, Closing):
                self.raises(InvalidOperation, joined_pairs, value)


class TestAgainstPlainDefinitions(Case):
    def test_random_closings(self):
        rows = samples.generator_of(41)
        failed = 0
        for _ in range(500):
            book = parts.random_book(rows)
            names = list(book.names)
            pairs = [parts.random_pair(rows, 1, names)[::rows.choice((1, -1))] for _ in range(rows.randint(0, 3))]
            terms = tuple(parts.random_term(rows, 2, names) for _ in range(rows.randint(0, 2)))
            closing = Closing(book, *pairs, terms=terms)
            classes, has_failed = parts.plain_closing(book, pairs, terms)
            failed += has_failed
            self.same(closing.classes, tuple(tuple(group) for group in classes))
            self.same([closing.has_failed, bool(closing), len(closing)], [has_failed, not has_failed, len(classes)])
            self.same(closing.nodes, tuple(sorted(node for group in classes for node in group)))
            known = parts.plain_known(book, classes)
            self.same(closing.known, tuple(tuple(group) for group in known))
            self.check_readings(book, closing)
            self.check_equal(rows, book, closing, pairs, terms)
            if not has_failed:
                self.check_world(book, closing, pairs)
        self.assertGreater(failed, 10)

    def check_readings(self, book, closing):
        for node in closing.nodes:
            reading = closing.reading(node)
            self.assertEqual(reading is not None, closing.class_of(node) in closing.known)
            if reading is not None:
                self.assertTrue(closing.equal(reading, node))
                self.assertFalse(set(places_of(reading)) & set(book.hidden))
                self.assertTrue(set(places_of(reading)) <= {node[0] for node in closing.nodes})

    def check_equal(self, rows, book, closing, pairs, terms):
        for _ in range(4):
            one, other = parts.random_pair(rows, 2, list(book.names))
            classes, _ = parts.plain_closing(book, pairs, (*terms, one, other))
            self.assertEqual(closing.equal(one, other), any({one, other} <= set(group) for group in classes))

    def check_world(self, book, closing, pairs):
        world = closing.world()
        self.assertEqual([world.size, world.rest], [len(closing) + 1, len(closing)])
        self.assertTrue(world.keeps(book) and all(world(one) == world(other) for one, other in pairs))
        for thing, group in enumerate(closing.classes):
            self.assertEqual({world(node) for node in group}, {thing})
        self.assertEqual(set(world.names), set(book.names) | {node[0] for node in closing.nodes})
        self.assertEqual(len(world.rows),
                         len({(node[0], *[world(below) for below in node[1:]]) for node in closing.nodes}))

    def test_great_books(self):
        book = Book(*parts.book_of_nodes(60))
        for letter in "yzw":
            more = Book(*parts.book_of_nodes(60))
            book |= more.renamed_by({name: letter + name[1:] for name in more.names})
        closing = Closing(book, *[(B, (name,)) for name in book.visible])
        self.same([len(closing), len(closing.nodes), len(Closing(book))], [1, 241, 120])
        self.same(GATES.nodes, Closing(GATES).nodes)
        self.same(Closing(GATES, (A, C)).class_of(B), (B, E, g(H)))
        self.same(read_fact("a=b") in book, False)


if __name__ == "__main__":
    unittest.main()
