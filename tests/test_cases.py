"""[0.15], [8.1] to [8.3]: hidden classes, hidden terms and cases."""

import itertools
import unittest

from shownpart.base.facts import is_fact, read_fact
from shownpart.base.terms import places_of
from shownpart.base.worlds import World, worlds_of
from shownpart.books.books import Book
from shownpart.closing.closing import Closing, is_empty
from shownpart.errors import InvalidBook, InvalidOperation, InvalidTerm, InvalidWorld, TooMany
from shownpart.growths.growths import carries, value_at
from shownpart.shown import cases as module
from shownpart.shown.cases import are_cases, case_at, cases, hidden_classes, hidden_terms, is_case
from tests import parts, samples
from tests.checks import Case
from tests.parts import APART, EMPTY, FLAT, GATES, ODD, PAIRED, RING, f, g, loose, plain_signature
from tests.samples import A, B, C, D, E

INTERFACE = {
    "hidden_classes": "(book)", "hidden_terms": "(book)", "cases": "(book, term)", "case_at": "(book, term, world)",
    "is_case": "(book, term, value)", "are_cases": "(book, term, value)",
}
H = ("h",)
AC, AB, BC = (A, C), (A, B), (B, C)


def hold(world, conditions):
    return all(world.holds(((), pair)) for pair in conditions)


class TestInterface(Case):
    def test_names_and_parameters(self):
        for name, parameters in INTERFACE.items():
            action = getattr(module, name)
            self.same([plain_signature(action), action.__module__], [parameters, "shownpart.shown.cases"])


class TestHidden(Case):
    def test_classes(self):
        for book, told in ((RING, ((E, f(E, C)),)), (PAIRED, ((E,),)), (GATES, ()), (EMPTY, ()), (Book(), ()),
                           (RING.reveal("e"), ()), (RING.hide("b", "f"), ((B, f(E, A)), (E, f(E, C)))),
                           (loose("e", "a=e", "b=e", "a=b => never"), ()), (loose("e h", "e=h"), ((E, H),)),
                           (loose("e h", "a=g(e)", "g(h)=h", "g(e)=k"), ((E,), (g(H), H)))):
            self.same(hidden_classes(book), told)

    def test_terms(self):
        for book, told in ((RING, (E, f(E, A), f(E, C))), (GATES, (E, g(H), H)), (EMPTY, ()), (Book(), ()),
                           (RING.hide("f").reveal("e"), (f(E, A), f(E, C))), (loose("e", "never", "a=g(e)"), (E, g(E))),
                           (loose("k", "a=k(b)", "g(k(b))=k(k(a))"),
                            (g(("k", B)), ("k", A), ("k", B), ("k", ("k", A)))),
                           (Book(names={"z": 0}, hidden=("z",)), ())):
            self.same(hidden_terms(book), told)


class TestErrors(Case):
    def test_wrong_books_terms_and_worlds(self):
        for value in ODD:
            if not isinstance(value, Book):
                for action in (hidden_classes, hidden_terms):
                    self.raises(InvalidBook, action, value)
                self.raises(InvalidBook, next, cases(value, value))
                self.raises(InvalidBook, case_at, value, value, value)
                for action in (is_case, are_cases):
                    self.raises(InvalidBook, action, value, value, value)
        for value in [*ODD, ("z",), f(A), ("a", A), g(E)]:
            self.raises(InvalidTerm, next, cases(RING, value))
            self.raises(InvalidTerm, case_at, RING, value, value)
            for action in (is_case, are_cases):
                self.raises(InvalidTerm, action, RING, value, value)
        for value in [*[odd for odd in ODD if odd != FLAT], FLAT.only("a", "b", "c"), FLAT.with_table("e", 0, {}),
                      FLAT.with_table("f", 1, {})]:
            self.raises(InvalidWorld, case_at, RING, E, value)
            self.raises(InvalidWorld, case_at, RING, A, value)
        for term in (A, E, f(A, E)):
            self.raises(InvalidOperation, case_at, RING, term, FLAT.with_table("f", 2, {}))
        self.raises(InvalidOperation, case_at, EMPTY, A, World(1, a=(0, {}), b=(0, {}), f=(1, {})))

    def test_judges_accept_every_value(self):
        for value in [*ODD, (AC, B), ((AC,), B, B), ((AC,),), [(AC,), B], ([AC], B), ((AC,), f(A)), ((AC,), ("z",)),
                      (((C, A),), B), ((AC, AB), B), ((AC, AC), B), (((A, E),), B), ((AC,), E), ((AC,), f(E, A)),
                      (((A, ("z",)),), B), (((A, f(A)),), B), ((AC,), None), (None, B), (((A, A),), B), ((AC,), (B,))]:
            self.same([is_case(RING, E, value), are_cases(RING, E, (value,)), are_cases(RING, E, (((AC,), B), value))],
                      [False] * 3)
            if value != ():
                self.same(are_cases(EMPTY, A, value), False)
        self.same(are_cases(RING, E, [((AC,), B)]), False)
        for new in [*ODD, A, ("z",), f(A, A), AC, (AC,)]:
            for value in samples.parts_replaced(((AC,), B), new):
                self.assertIn(is_case(RING, E, value), (True, False))

    def test_six_and_seven_hidden_terms(self):
        five = loose("e", "a=f(e,a)", "b=f(e,b)", "c=f(e,c) & d=f(e,d) => a=b", y=0, z=0)
        self.same(len(hidden_terms(five)), 5)
        self.same(list(cases(five, A)), [((), A)])
        for term in (E, f(E, A), f(E, f(A, B)), f(f(E, A), B)):
            self.same(are_cases(five, term, tuple(cases(five, term))), True)
        for term in (f(f(E, A), f(E, ("z",))), f(f(E, B), f(A, E))):
            self.same(self.raises(TooMany, next, cases(five, term)).limit, 6)
            self.same(self.raises(TooMany, are_cases, five, term, 1).limit, 6)
            self.same(is_case(five, term, ((), A)), False)
        full = five.with_facts(read_fact("f(e,z)=y"))
        self.same([len(hidden_terms(full)), are_cases(full, E, tuple(cases(full, E)))], [6, True])
        self.same(self.raises(TooMany, next, cases(full, f(E, ("y",)))).limit, 6)
        seven = full.without_facts(read_fact("f(e,z)=y")).with_facts(read_fact("a=f(e,y) & f(e,z)=y => b=c"))
        for term in (A, E, f(A, B)):
            self.same(self.raises(TooMany, next, cases(seven, term)).limit, 6)
            self.same(self.raises(TooMany, are_cases, seven, term, ()).limit, 6)
        # Without these limits are all others.
        self.same([len(hidden_terms(seven)), len(hidden_classes(seven)), is_case(seven, f(E, A), ((), A))],
                  [7, 5, True])
        world = World.of(1, 0, {name: (many, {}) for name, many in parts.visible_places(seven).items()})
        self.same(case_at(seven, f(E, A), world), ((), A))
        self.same(is_case(seven, f(E, f(E, A)), case_at(seven, f(E, f(E, A)), world)), True)

    def test_hidden_names_in_four_and_in_five_facts(self):
        four = loose("e h", "a=e => a=b", "b=e", "e=h => never", "c=h => b=c", "a=c")
        self.same([list(cases(four, E)), are_cases(four, H, ())], [[((), B)], True])
        five = four.with_facts(read_fact("a=d => e=h"))
        for term in (A, E, H):
            self.same(self.raises(TooMany, next, cases(five, term)).limit, 4)
            self.same(self.raises(TooMany, are_cases, five, term, 1).limit, 4)
        both = five.with_facts(*[read_fact(f"a=f(e,{letter})") for letter in "abcdh"])
        self.same(self.raises(TooMany, next, cases(both, E)).limit, 6)
        # Neither limit holds for an empty book.
        empty = both.with_facts(read_fact("never"))
        self.same([list(cases(empty, E)), list(cases(empty, A)), are_cases(empty, E, ()), are_cases(empty, A, ())],
                  [[], [], True, True])


class TestCases(Case):
    def check(self, book, term):
        """Check that the cases of a term are complete, and return them."""
        found = list(cases(book, term))
        for case in found:
            self.same(is_case(book, term, case), True)
            self.assertTrue(is_fact((case[0], None)))
            terms = [*[side for pair in case[0] for side in pair], case[1]]
            self.assertFalse({name for told in terms for name in places_of(told)} & set(book.hidden))
        self.same(are_cases(book, term, tuple(found)), True)
        self.same(are_cases(book, term, tuple(found[::-1])), True)
        return found

    def test_results(self):
        self.same(self.check(RING, E), [((AC,), B)])
        self.same(self.check(PAIRED, E), [])
        self.same(self.check(PAIRED, f(E, A)), [((), B)])
        self.same(self.check(GATES, E), [((), g(D))])
        self.same(self.check(GATES, H), [((), D)])
        self.same(self.check(GATES, g(g(H))), [((), g(g(D)))])
        self.same(self.check(RING, f(A, B)), [((), f(A, B))])
        self.same(self.check(EMPTY, E), [])
        self.same(self.check(EMPTY, A), [])
        self.same(self.check(Book(names={"a": 0, "z": 0}, hidden=("z",)), ("z",)), [])

    def test_a_visible_term_has_one_case(self):
        book = loose("e", "a=f(b,b)", "b=e")
        world = World(1, a=(0, {}), b=(0, {}), f=(2, {}))
        for term in (A, B, f(B, B), f(f(B, B), A)):
            self.same([list(cases(book, term)), case_at(book, term, world)], [[((), term)], ((), term)])
            self.same([are_cases(book, term, (((), term),)), are_cases(book, term, (((AB,), term),))], [True, False])
        self.same(are_cases(book, f(B, B), (((), A),)), True)

    def test_rings_towers_and_chains(self):
        ring = loose("e h", "a=b => e=g(h)", "a=c => h=g(e)", "b=c => e=a")
        self.assertIn(((BC,), A), self.check(ring, E))
        self.assertIn(((AB, AC), g(A)), self.check(ring, H))
        tower = loose("e", "a=g(e)", "b=g(g(e))", "g(g(g(e)))=e => a=c", d=0)
        self.same(self.check(tower, g(g(g(E)))), [((), g(B))])
        self.same(self.check(tower, E), [])
        chain = loose("ea eb ec", "p=q => ea=eb", "r=s => eb=ec", "t=u => ec=d", "v=w => ea=c")
        one, two, three, four = [((first,), (second,)) for first, second in ("pq", "rs", "tu", "vw")]
        self.assertEqual(set(self.check(chain, ("ea",))), {((one, two, three), D), ((four,), C)})
        self.assertEqual(set(self.check(chain, ("eb",))), {((two, three), D), ((one, four), C)})
        self.assertEqual(set(self.check(chain, ("ec",))), {((three,), D), ((one, two, four), C)})

    def test_a_hidden_function_on_its_own_values(self):
        book = loose("k", "b=k(a)", "c=k(k(a))", "k(c)=d")
        self.same(self.check(book, ("k", ("k", ("k", A)))), [((), D)])
        self.assertEqual(set(self.check(book, ("k", ("k", D)))), {
            (((B, D),), D), (((C, D),), C), (((A, D),), C)})
        self.same(self.check(book, ("k", B)), [((), C)])

    def test_is_case_goes_beyond_those_that_are_told(self):
        for value, told in ((((AC,), B), True), (((AC,), f(B, C)), True), (((AC,), f(f(B, C), A)), True),
                            (((AB, AC), B), True),
                            (((AB, AC), A), True), (((AC, (A, f(A, A))), B), True), ((((A, f(A, A)), AC), B), False),
                            (((AB,), B), False), (((AC,), A), False),
                            (((AC,), C), False), ((((A, B),), A), False), (((AC, BC), C), True)):
            self.same(is_case(RING, E, value), told)
        # Conditions that never hold in the book make no case.
        apart = RING.with_facts(read_fact("a=c => never"))
        self.same([is_case(apart, E, ((AC,), B)), list(cases(apart, E)), are_cases(apart, E, ())], [False, [], True])
        self.same([is_case(RING, A, ((AC,), C)), is_case(RING, A, ((), C)), is_case(RING, A, ((), A))],
                  [True, False, True])
        self.same([are_cases(RING, A, (((), A),)), are_cases(RING, A, (((AC,), A),)), are_cases(RING, A, ())],
                  [True, False, False])

    def test_completeness(self):
        for value, told in (((((AC,), B),), True), ((((AC,), f(B, A)), ((AC,), B)), True), ((), False),
                            ((((AB, AC), B),), False), ((((AB, AC), B), ((AC,), B)), True),
                            (((((A, C), (B, f(B, A))), B),), True), ((((AC,), B), ((AC,), B)), True)):
            self.same(are_cases(RING, E, value), told)
        book = loose("e", "a=b => e=c", "c=d => e=a")
        one, other = (((A, B),), C), (((C, D),), A)
        for value, told in (((one, other), True), ((other, one), True), ((one,), False), ((other,), False)):
            self.same(are_cases(book, E, value), told)

    def test_errors_with_the_first_value(self):
        found = cases(RING, ("z",))
        self.raises(InvalidTerm, next, found)

    def test_two_generators_at_once(self):
        book = loose("e", "a=b => e=c", "c=d => e=a", "b=d => e=b")
        one, other = cases(book, E), cases(book, E)
        told = [next(one), next(other), next(other), next(one)]
        self.same([told[0], told[3], *one], [told[1], told[2], *other])
        self.same(len(list(cases(book, E))), 3)


class TestAtWorlds(Case):
    def test_results(self):
        self.same([case_at(RING, E, FLAT), case_at(RING, E, APART), case_at(RING, A, FLAT),
                   case_at(RING, f(E, A), APART)],
                  [((AC,), B), None, ((), A), ((), B)])
        self.same(case_at(RING, E, FLAT.with_table("z", 0, {})), ((AC,), B))
        self.same(case_at(GATES, g(E), World(1, a=(0, {}), b=(0, {}), c=(0, {}), d=(0, {}), g=(1, {})))[1], g(g(D)))

    def test_over_all_small_worlds(self):
        books = (RING, GATES, loose("e", "a=b => e=c", "c=b => e=a", "g(e)=b"), loose("k", "b=k(a)", "k(k(b))=c"),
                 loose("e h", "a=b => e=g(h)", "a=c => h=g(e)", "b=c => e=a"), loose("e", "g(e)=e", "a=g(b) => e=a"))
        for book in books:
            terms = [*hidden_terms(book)[:4], *book.nodes[:1]]
            found = {term: self.complete(book, term) for term in terms}
            for size in (1, 2):
                for world in itertools.islice(worlds_of(size, parts.visible_places(book)), 700):
                    if carries(book, world):
                        for term in terms:
                            self.check(book, world, term, found[term])

    def complete(self, book, term):
        found = list(cases(book, term))
        self.same(are_cases(book, term, tuple(found)), True)
        return found

    def check(self, book, world, term, found):
        value = value_at(book, world, term)
        holding = [case for case in found if hold(world, case[0])]
        self.same(bool(holding), value is not None)
        for _, reading in holding:
            self.same(world(reading), value)
        case = case_at(book, term, world)
        self.same(case is None, value is None)
        if case is not None:
            self.same([is_case(book, term, case), hold(world, case[0]), world(case[1])], [True, True, value])

    def test_random_books(self):
        rows = samples.generator_of(81)
        told = 0
        for _ in range(250):
            book = parts.random_book(rows)
            try:
                terms = [*hidden_terms(book)[:3], parts.random_term(rows, 2, list(book.names))]
                found = {term: self.complete(book, term) for term in terms}
            except TooMany as error:
                self.assertIn(error.limit, (4, 6))
                continue
            self.check_parts(book, found)
            worlds = [parts.random_world(rows, size, parts.visible_places(book)) for size in (1, 2, 2, 3)]
            closing = Closing(book, *[parts.random_pair(rows, 1, list(book.visible)) for _ in range(2)])
            if closing:
                worlds.append(closing.world().only(*book.visible))
            for world in worlds:
                if carries(book, world):
                    for term in found:
                        self.check(book, world, term, found[term])
                        told += len(found[term]) > 1
        self.assertGreater(told, 10)

    def check_parts(self, book, found):
        """Of complete cases, each one can be left out only if its conditions tell those of another one."""
        for term, all_cases in found.items():
            self.assertTrue(not is_empty(book) or not all_cases)
            for k, (conditions, _) in enumerate(all_cases):
                rest = (*all_cases[:k], *all_cases[k + 1:])
                closing = Closing(book, *conditions)
                told = any(all(closing.equal(*pair) for pair in case[0]) for case in rest)
                self.same(are_cases(book, term, rest), told)


if __name__ == "__main__":
    unittest.main()
