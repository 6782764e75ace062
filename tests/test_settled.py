"""[0.6], [0.16], [13.1], [13.2]: settled terms."""

import itertools
import unittest

from shownpart.base.facts import make_fact, make_pair, read_fact
from shownpart.base.terms import read_term
from shownpart.base.worlds import World, number_of_worlds, worlds_of
from shownpart.books.books import Book
from shownpart.closing.closing import Closing
from shownpart.errors import InvalidBook, InvalidFact, InvalidTerm, TooMany
from shownpart.shown import settled as module
from shownpart.shown.cases import hidden_terms
from shownpart.shown.settled import (
    is_settled, is_settling_paper, settled_terms, settles, settling_paper, ways_to_settle,
)
from tests import parts, samples
from tests.checks import Case
from tests.parts import EMPTY, GATES, NEVER, ODD, PAIRED, RING, f, loose, loose_fact, plain_signature
from tests.samples import A, B, C, D, E
from tests.test_follows import plain_judge

INTERFACE = {
    "settles": "(book, term, *, conditions=())", "is_settled": "(book, term, value, *, conditions=())",
    "settling_paper": "(book, term, *, conditions=())",
    "is_settling_paper": "(book, term, value, *, conditions=())", "ways_to_settle": "(book, term, pairs)",
    "settled_terms": "(book)",
}
AC = ((A, C),)
# e is b if a is c, and a if b is c and if c is d; it cannot be both a and b.
MANY = loose("e", "a=c => b=e", "b=c => a=e", "c=d => a=e", "a=b => never")
WITH_CONDITIONS = (settles, settling_paper, lambda book, term, **more: is_settled(book, term, 1, **more),
                   lambda book, term, **more: is_settling_paper(book, term, 1, **more))


def some_conditions(rows, book, many=2):
    pairs = [parts.random_pair(rows, 1, list(book.visible)) for _ in range(rows.randint(0, many))]
    return make_fact(None, *pairs)[0]


def plain_settling_term(book, term, conditions):
    """A visible term that settles a term, among all those of at most three levels, or None."""
    if parts.plain_follows(book, (conditions, None)):
        return None
    names = [(name, book.names[name]) for name in book.visible]
    terms = [(name,) for name, many in names if many == 0]
    for _ in range(2):
        terms = sorted({*terms, *[(name, *below) for name, many in names if many < 3
                                  for below in itertools.product(terms, repeat=many)]})[:300]
    for other in terms:
        if other == term or parts.plain_follows(book, (conditions, make_pair(term, other))):
            return other
    return None


class TestInterface(Case):
    def test_names_and_parameters(self):
        for name, parameters in INTERFACE.items():
            action = getattr(module, name)
            self.same([plain_signature(action), action.__module__], [parameters, "shownpart.shown.settled"])


class TestErrors(Case):
    def test_wrong_books(self):
        for value in ODD:
            if not isinstance(value, Book):
                for action in WITH_CONDITIONS:
                    self.raises(InvalidBook, action, value, E)
                    self.raises(InvalidBook, action, value, value, conditions=value)
                self.raises(InvalidBook, ways_to_settle, value, value, value)
                self.raises(InvalidBook, settled_terms, value)

    def test_wrong_terms(self):
        for value in [*ODD, ("z",), f(A), ("e", A), f(A, ("z",)), ("a", A)]:
            for action in WITH_CONDITIONS:
                self.raises(InvalidTerm, action, RING, value)
                self.raises(InvalidTerm, action, RING, value, conditions=1)
            self.raises(InvalidTerm, ways_to_settle, RING, value, 1)

    def test_wrong_conditions(self):
        wrong = [((A, E),), ((A, ("z",)),), ((A, f(A)),), ((A, B), (A, B)), (AC[0], (A, B)), ((C, A),), ((A, A),),
                 [(A, C)], (A, C), (((A, C),), None), ((B, f(E, A)),), (AC[0], (C, ("a", C)))]
        for value in [value for value in ODD if value != ()] + wrong:
            for action in WITH_CONDITIONS:
                self.raises(InvalidFact, action, RING, E, conditions=value)
                self.raises(InvalidFact, action, RING.with_facts(NEVER), B, conditions=value)
            self.raises(InvalidFact, ways_to_settle, RING, E, value)

    def test_too_many_pairs(self):
        cells = parts.cells(10)
        book = Book(names={name: 0 for name, in cells}).with_names(a=0)
        pairs = tuple((A, cell) for cell in cells)
        for many in (9, 10):
            self.same(self.raises(TooMany, ways_to_settle, book, A, pairs[:many]).limit, 8)
            self.raises(InvalidFact, ways_to_settle, book, A, pairs[:many][::-1])
            self.raises(InvalidFact, ways_to_settle, book, A, (*pairs[:many], (A, ("zz",))))
            self.raises(InvalidTerm, ways_to_settle, book, ("zz",), pairs[:many])
        self.same([ways_to_settle(book, A, pairs[:many]) for many in (0, 8)], [((),)] * 2)
        self.same(ways_to_settle(book.with_names(e=0).hide("e"), E, pairs[:8]), ())
        self.same(settles(book, A, conditions=pairs) in [A, *cells], True)

    def test_judges_accept_every_value(self):
        for value in ODD:
            self.same([is_settled(RING, E, value), is_settling_paper(RING, E, value),
                       is_settling_paper(RING, E, ("open", value, value)), is_settling_paper(RING, B, ("settled", B, value)),
                       is_settling_paper(RING, E, ("never", value)), is_settling_paper(EMPTY, B, ("never", value)),
                       is_settling_paper(RING, E, ("settled", value, value)),
                       is_settled(RING, E, value, conditions=AC)],
                      [False, False, False, value == (), False, False, False, False])


class TestSettles(Case):
    def test_results(self):
        for book, text, conditions, told in (
                (RING, "e", "", None), (RING, "e", "a=c", True), (RING, "f(e,a)", "", True), (RING, "b", "", True),
                (RING, "f(a,f(b,c))", "", True), (RING, "f(a,e)", "", None), (RING, "f(a,e)", "a=c", True),
                (GATES, "h", "", True), (GATES, "e", "", True), (GATES, "g(g(g(h)))", "", True), (EMPTY, "e", "", None),
                (EMPTY, "b", "", None), (EMPTY, "a", "a=b", None), (PAIRED, "e", "a=c", None),
                (PAIRED, "f(e,c)", "", True), (PAIRED, "f(e,b)", "", None), (PAIRED, "f(e,b)", "a=b", True),
                (MANY, "e", "a=b", None), (MANY, "a", "a=b", None), (MANY, "e", "a=c", True),
                (MANY, "e", "a=c & b=c", None), (MANY, "e", "a=c & c=d", None), (MANY, "e", "b=c & c=d", True),
                (Book(names={"a": 0}), "a", "", True), (Book(names={"e": 0}, hidden=("e",)), "e", "", None)):
            term = read_term(text)
            conditions = read_fact(conditions + " => never")[0] if conditions else ()
            result = settles(book, term, conditions=conditions)
            self.same(result is None, told is None)
            if told:
                self.assertTrue(is_settled(book, term, result, conditions=conditions))
                self.assertFalse(set(samples.plain_places([result])) & set(book.hidden))

    def test_is_settled(self):
        for text, conditions, value, told in (
                ("e", AC, "b", True), ("e", AC, "f(b,a)", True), ("e", AC, "f(b,c)", True), ("e", AC, "f(f(b,a),c)", True),
                ("e", AC, "a", False), ("e", (), "b", False), ("e", AC, "e", False), ("e", AC, "f(e,a)", False),
                ("f(e,a)", (), "b", True), ("b", (), "b", True), ("b", (), "a", False), ("f(a,a)", (), "f(a,a)", True),
                ("e", AC, "f(b)", False), ("e", AC, "z", False), ("e", ((A, B), (A, C)), "a", True)):
            self.same(is_settled(RING, read_term(text), read_term(value), conditions=conditions), told)
        # A book that holds in no world settles nothing, neither do conditions that do not go with it.
        self.same([is_settled(EMPTY, B, B), is_settled(MANY, A, A, conditions=((A, B),)), is_settled(MANY, A, A)],
                  [False, False, True])

    def test_against_all_visible_terms(self):
        rows = samples.generator_of(131)
        found = {True: 0, False: 0}
        for _ in range(150):
            book = parts.random_book(rows, rows.choice(parts.SETS[:5]), rows.randint(1, 4), 1)
            term = rows.choice(book.nodes)
            conditions = some_conditions(rows, book)
            result = settles(book, term, conditions=conditions)
            found[result is None] += 1
            if result is None:
                self.same(plain_settling_term(book, term, conditions), None)
            else:
                self.assertFalse(set(samples.plain_places([result])) & set(book.hidden))
                self.assertTrue(result == term or parts.plain_follows(book, (conditions, make_pair(term, result))))
                self.assertFalse(parts.plain_follows(book, (conditions, None)))
                self.assertTrue(is_settled(book, term, result, conditions=conditions))
        self.assertGreater(min(found.values()), 15)

    def test_over_all_worlds_of_one_and_two_things(self):
        rows = samples.generator_of(132)
        found = {True: 0, False: 0}
        books = [parts.random_book(rows, rows.choice(parts.SETS[:4]), rows.randint(1, 3), 1) for _ in range(60)]
        for book in (RING, MANY, *books):
            worlds = [world for size in (1, 2) if number_of_worlds(size, book.names) < 3000
                      for world in worlds_of(size, book.names) if parts.plain_keeps(world, book)]
            for term in hidden_terms(book)[:3]:
                conditions = some_conditions(rows, book, 1)
                result = settles(book, term, conditions=conditions)
                kept = [world for world in worlds if all(parts.plain_pair_holds(world, pair) for pair in conditions)]
                found[result is not None] += 1
                if result is not None:
                    self.assertTrue(all(world(term) == world(result) for world in kept))
                elif kept:
                    # A world of one thing says nothing of what is settled in all worlds.
                    self.same(settling_paper(book, term, conditions=conditions)[0], "open")
        self.assertGreater(min(found.values()), 20)

    def test_deep_terms(self):
        deep = samples.chain(39, E)
        book = Book(((), make_pair(E, samples.chain(39))), hidden=("e",))
        self.same([settles(book, deep), is_settled(book, deep, samples.chain(78))], [samples.chain(78), True])
        kind, term, rows = settling_paper(book, deep)
        self.same([kind, term, is_settling_paper(book, deep, (kind, term, rows))], ["settled", samples.chain(78), True])
        very = read_term("s(" * 1500 + "e" + ")" * 1500)
        self.same([is_settled(book, very, read_term("s(" * 1539 + "a" + ")" * 1539)),
                   settling_paper(book.without_facts(*book.facts), very)[0]], [True, "open"])


class TestPapers(Case):
    def check(self, book, term, conditions):
        """Check the paper of a term, and tell its form."""
        paper = settling_paper(book, term, conditions=conditions)
        self.assertTrue(is_settling_paper(book, term, paper, conditions=conditions))
        result = settles(book, term, conditions=conditions)
        if paper[0] == "settled":
            self.assertTrue(is_settled(book, term, paper[1], conditions=conditions) and result is not None)
            if paper[1] == term:
                self.same(paper[2], ())
            else:
                fact = (conditions, make_pair(term, paper[1]))
                self.assertTrue(plain_judge(book, fact, ("steps", paper[2])))
        elif paper[0] == "open":
            self.assertTrue(result is None and self.plain_open(book, term, conditions, *paper[1:]))
        else:
            self.same([paper[0], result], ["never", None])
            self.assertTrue(plain_judge(book, (conditions, None), ("steps", paper[1])))
        return paper[0]

    def plain_open(self, book, term, conditions, one, other):
        """Whether two worlds are as [13.1] has it."""
        for world in (one, other):
            if not isinstance(world, World) or not set(book.names.items()) <= set(world.names.items()):
                return False
            if not parts.plain_keeps(world, book):
                return False
            if not all(parts.plain_pair_holds(world, pair) for pair in conditions):
                return False
        if [one.size, one.rest] != [other.size, other.rest] or parts.plain_value(one, term) == parts.plain_value(other, term):
            return False
        for name in book.visible:
            for things in itertools.product(range(one.size), repeat=book.names[name]):
                if one.at(name, *things) != other.at(name, *things):
                    return False
        return True

    def test_results(self):
        for book, term, conditions, kind in (
                (RING, E, (), "open"), (RING, E, AC, "settled"), (RING, B, (), "settled"), (EMPTY, B, (), "never"),
                (EMPTY, E, ((A, B),), "never"), (MANY, E, ((A, C), (B, C)), "never"), (MANY, E, ((A, B),), "never"),
                (MANY, A, ((A, B),), "never"), (GATES, ("h",), (), "settled"), (PAIRED, E, AC, "open"),
                (PAIRED, f(E, B), (), "open"), (PAIRED, f(E, B), ((A, B),), "settled"),
                (Book(names={"e": 1}, hidden=("e",)).with_names(a=0), ("e", A), (), "open"), (RING, f(A, A), (), "settled")):
            self.same(self.check(book, term, conditions), kind)

    def test_random_books(self):
        rows = samples.generator_of(133)
        found = {"settled": 0, "open": 0, "never": 0}
        for _ in range(500):
            book = parts.random_book(rows)
            term = rows.choice(book.nodes) if rows.random() < 0.6 else parts.random_term(rows, 2, list(book.names))
            found[self.check(book, term, some_conditions(rows, book))] += 1
        self.assertGreater(min(found.values()), 15)

    def test_papers_of_other_forms(self):
        settled, still, never = (settling_paper(RING, E, conditions=AC), settling_paper(RING, E),
                                 settling_paper(MANY, E, conditions=((A, B),)))
        for paper, right in ((settled, (RING, E, AC)), (still, (RING, E, ())), (never, (MANY, E, ((A, B),)))):
            for book, term, conditions in ((RING, E, AC), (RING, E, ()), (MANY, E, ((A, B),)), (MANY, E, ()), (PAIRED, E, ()),
                                           (PAIRED, E, AC), (EMPTY, B, ()), (RING, B, ()), (GATES, E, ())):
                told = (book, term, conditions) == right
                self.same(is_settling_paper(book, term, paper, conditions=conditions), told)
            for value in (list(paper), paper[:-1], (*paper, ()), ("", *paper[1:]), paper[1:], paper[::-1]):
                self.same(is_settling_paper(right[0], right[1], value, conditions=right[2]), False)

    def test_settled_papers(self):
        _, term, rows = settling_paper(RING, E, conditions=AC)
        fact = (AC, make_pair(B, E))
        other = f(B, A)
        self.same(term, B)
        for value, told in ((("settled", B, rows), True), (("settled", other, rows), False), (("settled", B, ()), False),
                            (("settled", E, ()), False), (("settled", B, rows[:-1]), False), (("settled", C, rows), False),
                            (("settled", B, (*rows, rows[0])), False), (("settled", B, (rows[0], *rows)), False),
                            (("never", rows), False), (("settled", f(E, A), rows), False)):
            self.same(is_settling_paper(RING, E, value, conditions=AC), told)
        self.same([is_settling_paper(RING, B, ("settled", B, value)) for value in ((), rows, [], None)],
                  [True, False, False, False])
        self.same(is_settling_paper(RING, f(E, A), ("settled", B, (((B, f(E, A)), "fact", (loose_fact("b=f(e,a)"), ())),))),
                  True)
        for new in [*ODD, A, B, (B, E), "link", 2, rows[0]]:
            for value in samples.parts_replaced(("settled", B, rows), new):
                told = isinstance(value, tuple) and len(value) == 3 and value[:2] == ("settled", B) and plain_judge(
                    RING, fact, ("steps", value[2]))
                self.same(is_settling_paper(RING, E, value, conditions=AC), told)

    def test_settled_papers_of_what_never_holds(self):
        # The rows are right, but there is no world in which conditions and book hold together.
        book = loose("e", "a=e", "b=c => never")
        rows = (((A, E), "fact", (read_fact("a=e"), ())),)
        self.same([is_settling_paper(book, E, ("settled", A, rows)),
                   is_settling_paper(book, E, ("settled", A, rows), conditions=((B, C),)),
                   is_settling_paper(book, A, ("settled", A, ())),
                   is_settling_paper(book, A, ("settled", A, ()), conditions=((B, C),))], [True, False, True, False])
        rows = (((B, C), "given", ()), (None, "fact", (read_fact("b=c => never"), (0,))))
        self.same([is_settling_paper(book, E, ("never", rows), conditions=((B, C),)),
                   is_settling_paper(book, E, ("never", rows)),
                   is_settling_paper(book, E, ("never", rows[:1]), conditions=((B, C),)),
                   is_settling_paper(book, E, ("never", rows[1:]), conditions=((B, C),)),
                   is_settling_paper(book, E, ("settled", A, rows), conditions=((B, C),)),
                   is_settling_paper(book, E, ("never", ()), conditions=((B, C),)),
                   is_settling_paper(book, E, ("never", (*rows, rows[0])), conditions=((B, C),))],
                  [True] + [False] * 6)

    def test_open_papers(self):
        _, one, other = settling_paper(RING, E)
        size, rest = one.size, one.rest
        things = range(size)
        for first, second, told in (
                (one, other, True), (other, one, True), (one, one, False), (other, other, False),
                (one.with_table("z", 0, {}), other, True), (one, other.with_table("z", 1, {(0,): 1}), True),
                (one.with_table("z", 0, {}), other.with_table("z", 0, {(): 1}), True),
                (one.only("a", "b", "c", "f"), other, False), (one, other.only("a", "b", "c", "e"), False),
                (one, other.with_table("f", 1, {}), False), (one, other.with_table("f", 2, {}), False),
                (one, other.with_table("c", 0, {(): one(A)}), False),
                (one, World.of(size + 1, rest, {name: (many, {row[1:-1]: row[-1] for row in other.rows if row[0] == name})
                                                for name, many in other.names.items()}), False),
                (one.copied(tuple(things)[::-1]), other.copied(tuple(things)[::-1]), True),
                (one, other.copied(tuple(things)[::-1]), False)):
            self.same([is_settling_paper(RING, E, ("open", first, second)), self.plain_open(RING, E, (), first, second)],
                      [told, told])
        for value in (("open", one), ("open", one, other, ()), ("open", (one, other)), ["open", one, other], ("world", one,
                                                                                                             other)):
            self.same(is_settling_paper(RING, E, value), False)
        # Where the term has equal values, or the conditions do not hold, they show nothing.
        self.same([is_settling_paper(RING, f(E, A), ("open", one, other)),
                   is_settling_paper(RING, E, ("open", one, other), conditions=((A, B),)),
                   is_settling_paper(PAIRED, E, ("open", one, other))], [False] * 3)

    def test_open_papers_have_equal_rests_and_agree_everywhere(self):
        book = Book(names={"a": 0, "e": 0, "g": 1}, hidden=("e",))
        base = {"a": (0, {(): 0}), "g": (1, {(0,): 1, (1,): 0, (2,): 2})}
        one, other = [World.of(3, 2, {**base, "e": (0, {(): thing})}) for thing in (0, 1)]
        self.same(is_settling_paper(book, E, ("open", one, other)), True)
        # This world has the same values at all things, but another rest.
        third = World.of(3, 1, {**base, "e": (0, {(): 1})})
        self.same([third.at(name, *things) for name, things in (("a", ()), ("g", (0,)), ("g", (1,)), ("g", (2,)))],
                  [0, 1, 0, 2])
        self.same(is_settling_paper(book, E, ("open", one, third)), False)
        # Neither do these differ at any thing in what is visible: nothing there is told by the rest.
        one, other = [World.of(3, rest, {"a": (0, {(): 2}), "g": (1, {(0,): 2, (1,): 2, (2,): 2}), "e": (0, {(): thing})})
                      for rest, thing in ((0, 1), (1, 0))]
        self.same([one.only("a", "g").rows == other.only("a", "g").rows, is_settling_paper(book, E, ("open", one, other))],
                  [True, False])
        one, other = [World.of(3, 0, {**base, "e": (0, {(): thing})}) for thing in (0, 1)]
        for things in ((0,), (1,), (2,)):
            table = {key: value for key, value in base["g"][1].items() if key != things}
            self.same(is_settling_paper(book, E, ("open", one, other.with_table("g", 1, {**table, things: 1}))),
                      base["g"][1][things] == 1)


class TestWays(Case):
    def test_results(self):
        for book, term, text, told in (
                (RING, E, "a=b & a=c", ["a=c"]), (RING, f(E, A), "a=b & a=c", [""]), (RING, B, "", [""]), (RING, E, "", []),
                (MANY, E, "a=b & a=c & b=c & c=d", ["a=c", "b=c", "c=d"]), (MANY, E, "a=b", []), (EMPTY, B, "a=b", []),
                (MANY, A, "a=b & a=c", [""]), (PAIRED, f(E, B), "a=b & b=c", ["a=b", "b=c"]),
                (loose("e", "a=b & c=d => a=e", "p=q => a=e"), E, "a=b & a=c & c=d & p=q", ["a=b & c=d", "p=q"]),
                (loose("e", "a=b & c=d => a=e"), E, "a=c & a=d & b=c & b=d & c=d",
                 ["a=c & a=d & b=c", "a=c & a=d & b=d", "a=c & b=c & b=d", "a=c & b=c & c=d", "a=c & b=d & c=d",
                  "a=d & b=c & b=d", "a=d & b=c & c=d", "a=d & b=d & c=d"])):
            pairs = read_fact(text + " => never")[0] if text else ()
            ways = tuple(read_fact(way + " => never")[0] if way else () for way in told)
            self.same([ways_to_settle(book, term, pairs), self.check(book, term, pairs)], [ways, ways])

    def check(self, book, term, pairs):
        """Compare with the settling under all parts of the pairs, and return the ways."""
        under = [some for many in range(len(pairs) + 1) for some in itertools.combinations(pairs, many)
                 if settles(book, term, conditions=some) is not None]
        least = [some for some in under if not any(set(other) < set(some) for other in under)]
        ways = ways_to_settle(book, term, pairs)
        self.same(ways, tuple(sorted(least)))
        return ways

    def test_under_all_parts(self):
        rows = samples.generator_of(134)
        found = {}
        books = [MANY, loose("e", "a=b & c=d => a=e", "b=c => b=e", "a=d => never"), loose(
            "e h", "a=e => b=h", "b=c => a=e", "c=d => b=h")]
        for k in range(200):
            book = rows.choice(books) if k % 2 else parts.random_book(rows, rows.choice(parts.SETS[:5]), 4, 1)
            term = rows.choice(hidden_terms(book) or book.nodes)
            ways = self.check(book, term, some_conditions(rows, book, 6))
            found[len(ways)] = found.get(len(ways), 0) + 1
        self.assertGreater(len(found), 2)

    def test_eight_pairs(self):
        book = loose("e", "a=b & c=d & p=q => a=e", "r=s => a=e", "a=b & r=t => a=e")
        pairs = read_fact("a=b & a=t & b=t & c=d & p=q & r=s & r=t & s=t => never")[0]
        ways = self.check(book, E, pairs)
        self.assertGreater(len(ways), 4)


class TestSettledTerms(Case):
    def test_results(self):
        self.same(settled_terms(RING), ((E, None), (f(E, A), B), (f(E, C), None)))
        self.same(settled_terms(GATES), ((E, ("g", D)), (("g", ("h",)), ("g", D)), (("h",), D)))
        self.same([settled_terms(Book()), settled_terms(Book.read("a=b"))], [(), ()])
        empty = RING.with_facts(NEVER)
        self.same(settled_terms(empty), ((E, None), (f(E, A), None), (f(E, C), None)))
        self.same(settled_terms(EMPTY), ())

    def test_random_books(self):
        rows = samples.generator_of(135)
        for _ in range(200):
            book = parts.random_book(rows)
            result = settled_terms(book)
            self.same([term for term, _ in result], list(hidden_terms(book)))
            for term, value in result:
                self.same(value is None, settles(book, term) is None)
                self.assertTrue(value is None or is_settled(book, term, value))

    def test_great_books(self):
        book = Book(*parts.book_of_nodes(80)).hide("xab")
        more = book.renamed_by({name: "y" + name[1:] for name in book.names})
        both = book | more
        self.same([settled_terms(both), settles(both, ("xab",))],
                  [((("xab",), ("xaa",)), (("yab",), ("yaa",))), ("xaa",)])
        self.same(settling_paper(both, ("xab",))[0], "settled")
        kind, one, other = settling_paper(both.hide("xaa"), ("xab",))
        self.same([kind, one.size > 80, is_settling_paper(both.hide("xaa"), ("xab",), (kind, one, other))],
                  ["open", True, True])
        self.same(Closing(both).has_failed, False)


if __name__ == "__main__":
    unittest.main()
