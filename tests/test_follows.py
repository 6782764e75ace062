"""[0.6], [6.1] and [6.2]: what follows, and papers that show it."""

import itertools
import unittest

from shownpart.base.facts import fact_text, is_pair, make_fact, read_fact
from shownpart.base.terms import read_term
from shownpart.base.worlds import World, worlds_of
from shownpart.books.books import Book
from shownpart.closing import follows as module
from shownpart.closing.closing import Closing
from shownpart.closing.follows import (
    are_alike, cores, follow_paper, follows, is_follow_paper, is_spare, lean, tells, unlike_fact, untold_fact,
)
from shownpart.errors import InvalidBook, InvalidFact, InvalidOperation, TooMany
from tests import parts, samples
from tests.checks import Case
from tests.parts import EMPTY, GATES, NEVER, ODD, PAIRED, RING, f, loose, loose_fact, plain_signature
from tests.samples import A, B, C, D, E

INTERFACE = {
    "follows": "(book, fact)", "follow_paper": "(book, fact)", "is_follow_paper": "(book, fact, value)",
    "tells": "(book, other)", "untold_fact": "(book, other)", "are_alike": "(first, second)",
    "unlike_fact": "(first, second)", "lean": "(book)", "is_spare": "(book, fact)", "cores": "(book, fact)",
}
SHUT = read_fact("a=c => b=f(b,c)")
MET = read_fact("a=c => b=e")
AC, AB = (A, C), (A, B)
ROWS = (
    (AC, "given", ()), ((B, f(E, A)), "fact", (read_fact("b=f(e,a)"), ())), ((f(E, A), f(E, C)), "places", (None, 0)),
    ((B, f(E, C)), "link", (1, 2)), ((E, f(E, C)), "fact", (read_fact("e=f(e,c)"), ())), ((B, E), "link", (3, 4)),
)


def plain_judge(book, fact, value):
    """Whether the value is a follow paper with rows, word by word as the document has it."""
    if not isinstance(value, tuple) or len(value) != 2 or value[0] != "steps":
        return False
    rows = value[1]
    if not isinstance(rows, tuple) or not rows:
        return False
    for k, row in enumerate(rows):
        if not isinstance(row, tuple) or len(row) != 3 or not plain_row(book, fact, rows[:k], row):
            return False
        if row[0] is None and k < len(rows) - 1:
            return False
    return rows[-1][0] is None or rows[-1][0] == fact[1]


def plain_row(book, fact, earlier, row):
    pair, word, numbers = row

    def tells_pair(number, wanted):
        return type(number) is int and 0 <= number < len(earlier) and earlier[number][0] == wanted

    if pair is not None and not samples.plain_pair(pair):
        return False
    if pair is not None and samples.plain_places(pair).items() - book.names.items():
        return False
    if word == "given":
        return pair in fact[0] and isinstance(numbers, tuple) and numbers == ()
    if not isinstance(numbers, tuple):
        return False
    if word == "fact":
        if len(numbers) != 2 or not samples.plain_fact(numbers[0]) or numbers[0] not in book.facts:
            return False
        if not isinstance(numbers[1], tuple) or len(numbers[1]) != len(numbers[0][0]) or numbers[0][1] != pair:
            return False
        return all(tells_pair(number, wanted) for number, wanted in zip(numbers[1], numbers[0][0]))
    if pair is None:
        return False
    if word == "places":
        one, other = pair
        if one[0] != other[0] or len(one) != len(other) or len(numbers) != len(one) - 1:
            return False
        couples = zip(one[1:], other[1:], numbers)
        return all(number is None if below == beside else tells_pair(number, tuple(sorted([below, beside])))
                   for below, beside, number in couples)
    if word == "link" and len(numbers) == 2 and all(type(k) is int and 0 <= k < len(earlier) for k in numbers):
        one, other = [set(earlier[k][0]) for k in numbers]
        return len(one & other) == 1 and one ^ other == set(pair)
    return False


class TestInterface(Case):
    def test_names_and_parameters(self):
        for name, parameters in INTERFACE.items():
            action = getattr(module, name)
            self.same([plain_signature(action), action.__module__], [parameters, "shownpart.closing.follows"])


class TestFollows(Case):
    def test_results(self):
        for book, text, told in ((RING, "a=c => b=f(b,c)", True), (RING, "b=f(b,a)", False), (RING, "a=c => b=e", True),
                                 (RING, "a=c & b=e => never", False), (RING, "e=f(e,c)", True), (RING, "never", False),
                                 (RING, "a=b => a=b", True), (PAIRED, "a=c => b=d", True),
                                 (PAIRED, "b=d => a=c", False),
                                 (GATES, "a=c => b=g(d)", True), (GATES, "b=g(d)", False), (GATES, "e=g(d)", True),
                                 (RING, "a=c => f(a,f(e,c))=f(c,b)", True), (RING, "f(a,a)=f(a,c)", False),
                                 (EMPTY, "a=b", True), (EMPTY, "never", True), (EMPTY, "a=f(b) => never", True)):
            fact = loose_fact(text)
            self.same(follows(book, fact), told)
            paper = follow_paper(book, fact)
            self.same(paper[0], "steps" if told else "world")
            self.same([is_follow_paper(book, fact, paper), plain_judge(book, fact, paper)], [True, told])

    def test_conditions_that_fail(self):
        book = loose("e", "a=e", "b=e => never", "c=f(a)", d=0)
        for text, told in (("a=b => c=d", True), ("a=b => never", True), ("a=c => never", False),
                           ("a=b & c=d => a=d", True)):
            fact = read_fact(text)
            self.same([follows(book, fact), is_follow_paper(book, fact, follow_paper(book, fact))], [told, True])
            if told:
                self.same(follow_paper(book, fact)[1][-1][:2], (None, "fact"))

    def test_other_names(self):
        for text in ("a=z", "a=z => b=c", "a=f(b)", "a=f", "a=b(c)", "a=b & b=g(a) => never"):
            fact = loose_fact(text)
            for action in (follows, follow_paper, lambda book, fact: is_follow_paper(book, fact, 1),
                           lambda book, fact: next(cores(book, fact))):
                self.raises(InvalidFact, action, RING, fact)
            self.raises(InvalidFact, is_spare, RING, fact)

    def test_wrong_values(self):
        for value in ODD:
            if not isinstance(value, Book):
                for action in (follows, follow_paper, is_spare, tells, untold_fact, are_alike, unlike_fact):
                    self.raises(InvalidBook, action, value, value)
                    self.raises(InvalidBook, action, value,
                                MET if action in (follows, follow_paper, is_spare) else RING)
                for action in (tells, untold_fact, are_alike, unlike_fact):
                    self.raises(InvalidBook, action, RING, value)
                    self.raises(InvalidBook, action, Book(names={"f": 1}), value)
                self.raises(InvalidBook, is_follow_paper, value, value, value)
                self.raises(InvalidBook, next, cores(value, value))
                self.raises(InvalidBook, lean, value)
            for action in (follows, follow_paper, is_spare):
                self.raises(InvalidFact, action, RING, value)
            self.raises(InvalidFact, is_follow_paper, RING, value, value)
            self.raises(InvalidFact, next, cores(Book(*parts.book_of_nodes(24)), value))

    def test_against_plain_definitions(self):
        rows = samples.generator_of(51)
        found = {True: 0, False: 0}
        for _ in range(600):
            book = parts.random_book(rows)
            fact = parts.random_fact(rows, 1, list(book.names))
            told = follows(book, fact)
            found[told] += 1
            self.same(told, parts.plain_follows(book, fact))
            paper = follow_paper(book, fact)
            self.same([paper[0], is_follow_paper(book, fact, paper)], ["steps" if told else "world", True])
            if told:
                self.assertTrue(plain_judge(book, fact, paper))
            else:
                self.assertTrue(parts.plain_keeps(paper[1], book) and not parts.plain_holds(paper[1], fact))
        self.assertGreater(min(found.values()), 100)

    def test_over_all_small_worlds(self):
        book = loose("e", "a=c => b=e", "b=f(e)", "b=c => never")
        worlds = [world for size in (1, 2) for world in worlds_of(size, book.names) if world.keeps(book)]
        self.assertGreater(len(worlds), 4)
        terms = [A, B, C, E, f(A), f(B), f(C), f(E), f(f(A))]
        pairs = [pair for pair in itertools.product(terms, terms) if pair[0] < pair[1]]
        for fact in [((), pair) for pair in pairs] + [((pair,), None) for pair in pairs] + [((AC,),
                                                                                             pair) for pair in pairs]:
            if follows(book, fact):
                self.assertTrue(all(world.holds(fact) for world in worlds), fact_text(fact))


class TestPapers(Case):
    def test_the_rows_of_the_document(self):
        self.same(is_follow_paper(RING, MET, ("steps", ROWS)), True)
        self.same(is_follow_paper(RING, read_fact("a=c => b=f(e,c)"), ("steps", ROWS)), False)
        self.same(is_follow_paper(RING, read_fact("a=c => b=f(e,c)"), ("steps", ROWS[:4])), True)
        self.same(is_follow_paper(RING, read_fact("b=e"), ("steps", ROWS)), False)
        self.same(is_follow_paper(RING, read_fact("a=b & a=c => b=e"), ("steps", ROWS)), True)
        self.same(is_follow_paper(RING, ((AC,), AC), ("steps", ROWS[:1])), True)
        self.same(is_follow_paper(RING, ((AC,), (f(A, A), f(A, C))),
                                  ("steps", (ROWS[0], ((f(A, A), f(A, C)), "places", (None, 0))))), True)

    def test_rows_that_no_later_one_uses(self):
        further = ((f(A, B), f(C, B)), "places", (0, None))
        for k in range(1, 6):
            moved = tuple(self.moved(row, k) for row in ROWS[k:])
            self.same(is_follow_paper(RING, MET, ("steps", (*ROWS[:k], further, *moved))), True)
            self.same(is_follow_paper(RING, MET, ("steps", (*ROWS[:k], ROWS[0], *moved))), True)
        self.same(is_follow_paper(RING, MET, ("steps", (*ROWS, further))), False)

    def moved(self, row, place):
        """The row with its numbers as they are behind a further row."""
        pair, word, numbers = row
        if word == "fact":
            return row
        return (pair, word, tuple(number if number is None or number < place else number + 1 for number in numbers))

    def test_rows_changed(self):
        for k, row in enumerate(ROWS):
            for other in itertools.permutations(range(6), 2):
                changed = list(ROWS)
                changed[k] = (row[0], row[1], other)
                self.judged(MET, tuple(changed))
            for further in ROWS:
                self.judged(MET, (*ROWS[:k], further, *ROWS[k:]))
                self.judged(MET, (*ROWS[:k], further, *ROWS[k + 1:]))
                for word in ("given", "fact", "places", "link", "steps", "", None):
                    self.judged(MET, (*ROWS[:k], (further[0], word, row[2]), *ROWS[k + 1:]))
                    self.judged(MET, (*ROWS[:k], (row[0], word, further[2]), *ROWS[k + 1:]))
            self.judged(MET, (*ROWS[:k], *ROWS[k + 1:]))
            self.judged(MET, ROWS[:k])
            self.judged(MET, (*ROWS[:k], (row[0][::-1], *row[1:]), *ROWS[k + 1:]))
            self.judged(MET, (*ROWS[:k], (None, *row[1:]), *ROWS[k + 1:]))
        for rows in itertools.permutations(ROWS):
            self.judged(MET, rows)

    def judged(self, fact, rows, book=RING):
        self.same(is_follow_paper(book, fact, ("steps", rows)), plain_judge(book, fact, ("steps", rows)))

    def test_numbers(self):
        for wrong in (True, False, -1, -5, 6, 7, None, "0", (0,), 10 ** 50):
            for k, numbers in ((2, (None, wrong)), (2, (wrong, 0)), (3, (wrong, 2)), (3, (1, wrong)), (5, (3, wrong))):
                row = (*ROWS[k][:2], numbers)
                if numbers != (None, 0) and row != ROWS[k]:
                    self.same(is_follow_paper(RING, MET, ("steps", (*ROWS[:k], row, *ROWS[k + 1:]))), False)
        for numbers in ([None, 0], (None,), (None, 0, None), (0, 0), ()):
            self.same(is_follow_paper(RING, MET, ("steps", (*ROWS[:2], (*ROWS[2][:2], numbers), *ROWS[3:]))), False)
        for numbers in ((1,), [1, 2], (1, 2, 2), (1, 1), (0, 2), ()):
            self.same(is_follow_paper(RING, MET, ("steps", (*ROWS[:3], (*ROWS[3][:2], numbers), *ROWS[4:]))), False)
        self.same(is_follow_paper(RING, MET, ("steps", (*ROWS[:3], (*ROWS[3][:2], (2, 1)), *ROWS[4:]))), True)
        for numbers in ([], (0,), None, ((),)):
            self.same(is_follow_paper(RING, MET, ("steps", ((AC, "given", numbers), *ROWS[1:]))), False)
        fact = RING.facts[0]
        for numbers in ((fact, []), (fact, (0,)), (fact,), (fact, (), ()), [fact, ()], (RING.facts[1], ()),
                        ((list(fact[0]), fact[1]), ()), (None, ()), fact, (((AC,), fact[1]), (0,)),
                        (PAIRED.facts[1], ())):
            self.same(is_follow_paper(RING, MET, ("steps", (ROWS[0], (ROWS[1][0], "fact", numbers), *ROWS[2:]))), False)

    def test_facts_with_conditions_in_order(self):
        book = loose("", "a=b & c=d => a=e", "a=e => never")
        fact = read_fact("a=b & c=d => b=c")
        rows = (((A, B), "given", ()), ((C, D), "given", ()), ((A, E), "fact", (book.facts[0], (0, 1))),
                (None, "fact", (book.facts[1], (2,))))
        for other in itertools.product((0, 1, 2), repeat=2):
            self.judged(fact, (*rows[:2], (*rows[2][:2], (book.facts[0], other)), rows[3]), book)
        self.same(is_follow_paper(book, fact, ("steps", rows)), True)
        self.same(is_follow_paper(book, read_fact("a=b & c=d => never"), ("steps", rows)), True)
        self.same(is_follow_paper(book, read_fact("a=b & c=d => never"), ("steps", rows[:3])), False)
        self.same(is_follow_paper(book, read_fact("a=b => never"), ("steps", rows)), False)
        self.same(is_follow_paper(book, fact, ("steps", (*rows, rows[0]))), False)
        self.same(is_follow_paper(book, fact, ("steps", (*rows, rows[3]))), False)
        self.same(is_follow_paper(book, fact, ("steps", (*rows[:3], ((A, E), "fact", (book.facts[1], (2,)))))), False)
        self.same(is_follow_paper(book, fact, ("steps", (*rows[:3], (None, "link", (0, 1))))), False)
        self.same(is_follow_paper(book, fact, ("steps", (*rows[:3], (None, "given", ())))), False)
        self.same(is_follow_paper(book, fact, ("steps", (*rows[:3], (None, "fact", (book.facts[0], (0, 1)))))), False)

    def test_links_have_exactly_one_term_in_common(self):
        book = loose("", "a=b", "b=c", "c=d", "a=c")
        told = {one[1]: (one[1], "fact", (one, ())) for one in book.facts}
        rows = (told[AB], told[(B, C)], told[(C, D)])
        self.same(is_follow_paper(book, ((), (A, D)), ("steps", (*rows, (AC, "link", (0, 1)), ((A, D), "link", (3,
                                                                                                                2))))),
                                                                                                                True)
        for numbers in itertools.product(range(4), repeat=2):
            for pair in itertools.combinations((A, B, C, D), 2):
                self.judged(((), pair), (*rows, (AC, "link", (0, 1)), (pair, "link", numbers)), book)
        self.same(is_follow_paper(book, ((), AB), ("steps", (rows[0], (AB, "link", (0, 0))))), False)

    def test_unlike_places_in_rows(self):
        row = ((f(A), f(C)), "places", (0,))
        self.same(is_follow_paper(RING, MET, ("steps", (ROWS[0], row, *[self.moved(one, 1) for one in ROWS[1:]]))),
                  False)

    def test_worlds(self):
        fact = read_fact("a=b")
        world = Closing(RING).world()
        self.same(is_follow_paper(RING, fact, ("world", world)), True)
        self.same(is_follow_paper(RING, fact, ("world", world.with_table("z", 3, {(0, 1, 0): 1}))), True)
        for other in (world.only("a", "b", "c", "e"), world.with_table("b", 0, {(): 0}), World(1), None, RING, (world,),
                      world.with_table("f", 1, {}), world.with_table("f", 2, {}), world.renamed(e="h")):
            self.same(is_follow_paper(RING, fact, ("world", other)), False)
        self.same(is_follow_paper(RING, MET, ("world", world)), False)
        for paper in (("worlds", world), ("steps", world), (world, "world"), ("world", world, ()), ["world", world],
                      world):
            self.same(is_follow_paper(RING, fact, paper), False)
        self.same(is_follow_paper(RING, read_fact("a=b => never"), ("world", Closing(RING, AB).world())), True)
        self.same(is_follow_paper(RING, NEVER, ("world", World.of(1, 0, {
            "a": (0, {}), "b": (0, {}), "c": (0, {}), "e": (0, {}), "f": (2, {})}))), True)

    def test_other_values_are_none(self):
        paper = ("steps", ROWS)
        self.same(is_follow_paper(RING, MET, ROWS), False)
        for value in [*ODD, [*paper], ("steps",), ("world",), (*paper, 1), ("steps", list(ROWS)), ("steps", ()),
                      ("world", ROWS), ("step", ROWS), (ROWS, "steps"), ("steps", ROWS[0]), ("steps", (ROWS,))]:
            self.same(is_follow_paper(RING, MET, value), False)
            self.same(is_follow_paper(RING, MET, ("steps", value)), False)
            self.same(is_follow_paper(RING, read_fact("a=b"), ("world", value)), False)
        for new in [*ODD, A, AC, "link", 2, (1, 2), ROWS[3]]:
            for value in samples.parts_replaced(paper, new):
                self.same(is_follow_paper(RING, MET, value), plain_judge(RING, MET, value))

    def test_papers_with_changes_of_rows(self):
        rows = samples.generator_of(52)
        found = {True: 0, False: 0}
        for _ in range(150):
            book = parts.random_book(rows)
            fact = parts.random_fact(rows, 1, list(book.names))
            kind, told = follow_paper(book, fact)
            if kind == "steps" and len(told) > 1:
                for _ in range(30):
                    changed = self.with_change(rows, list(told))
                    result = is_follow_paper(book, fact, ("steps", changed))
                    self.same(result, plain_judge(book, fact, ("steps", changed)))
                    found[result] += 1
        self.assertGreater(min(found.values()), 20)

    def with_change(self, rows, told):
        """The rows with one left out, moved, put in or changed."""
        k, other = rows.randrange(len(told)), rows.randrange(len(told))
        kind = rows.randrange(5)
        if kind == 0:
            del told[k]
        elif kind == 1:
            told.insert(other, told.pop(k))
        elif kind == 2:
            told.insert(k, told[other])
        elif kind == 3:
            told[k] = (told[other][0], *told[k][1:])
        else:
            told[k] = (*told[k][:2], told[other][2])
        return tuple(told)

    def test_many_levels(self):
        deep, other = [read_term("s(" * 2000 + end + ")" * 2000) for end in "ab"]
        book = Book(names={"s": 1, "a": 0, "b": 0})
        fact = make_fact((deep, other), AB)
        kind, rows = follow_paper(book, fact)
        self.same([kind, len(rows), follows(book, fact), follows(book, make_fact((deep, other)))],
                  ["steps", 2001, True, False])
        short = make_fact((samples.chain(39), samples.chain(39, B)), AB)
        paper = follow_paper(book, short)
        self.same([len(paper[1]), is_follow_paper(book, short, paper), plain_judge(book, short, paper)],
                  [40, True, True])
        self.same(is_follow_paper(book, short, ("steps", paper[1][:-1])), False)
        self.assertTrue(is_pair(paper[1][-1][0]))

    def test_the_last_row_is_the_conclusion(self):
        book = loose("", *[f"x{one}=x{other}" for one, other in zip("abcdefghij", "bcdefghijk")])
        for one, other in itertools.combinations(book.visible, 2):
            fact = make_fact(((other,), (one,)))
            kind, rows = follow_paper(book, fact)
            self.same([kind, rows[-1][0], is_follow_paper(book, fact, (kind, rows))], ["steps", fact[1], True])


class TestBooks(Case):
    def test_tells(self):
        other = loose("", "a=c => b=f(b,c)", "a=c => b=f(b,a)")
        self.same([tells(RING, other), untold_fact(RING, other)], [True, None])
        further = other.with_facts(read_fact("a=b"))
        self.same([tells(RING, further), untold_fact(RING, further)], [False, read_fact("a=b")])
        self.same([tells(RING, RING), tells(RING, Book()), tells(Book(), Book()), tells(EMPTY, loose("", "a=f(b)"))],
                  [True, True, True, True])
        self.same(tells(RING, Book(names={"z": 1, "f": 1})), True)
        for wrong in (loose("", "a=z"), loose("", "a=b", "b=f(a)"), loose("", "a=b => never", "c=g(a)")):
            self.raises(InvalidOperation, tells, RING, wrong)
            self.raises(InvalidOperation, untold_fact, RING, wrong)

    def test_alike(self):
        one = loose("e", "a=b", "b=c", "c=f(e)")
        other = loose("", "a=c", "b=c", "a=f(e)")
        for first, second, alike in ((one, other, True), (one, one, True), (one, other.with_names(z=0), False),
                                     (one, other.without_facts(read_fact("b=c")), False), (Book(), Book(), True),
                                     (one, other.with_facts(read_fact("a=e")), False),
                                     (EMPTY, EMPTY.with_facts(), True),
                                     (Book(names={"f": 1}), Book(names={"f": 2}), False)):
            self.same([are_alike(first, second), are_alike(second, first)], [alike, alike])
        self.same(unlike_fact(one, other), None)
        self.assertIn(unlike_fact(one, other.without_facts(read_fact("b=c"))), one.facts[:2])
        for first, second in ((one, other.with_facts(read_fact("a=e"))), (one.with_facts(read_fact("a=e")), other)):
            self.same(unlike_fact(first, second), read_fact("a=e"))
        self.raises(InvalidOperation, unlike_fact, one, other.with_names(z=0))
        self.raises(InvalidOperation, unlike_fact, Book(names={"f": 1}), Book(names={"f": 2}))

    def test_lean(self):
        book = loose("e", "a=b", "b=c", "a=c", "a=b => b=e", "b=e", "a=e => a=e", "a=g(e) => g(b)=c", z=1)
        result = lean(book)
        self.same([result.names, result.hidden, len(result)], [book.names, ("e",), 3])
        self.same([lean(Book()).text, lean(EMPTY).text, lean(RING).text], ["", EMPTY.text, RING.text])
        self.same(lean(loose("", "never", "a=b", "a=b => c=d")).text, "names a/0,b/0,c/0,d/0\nnever")
        rows = samples.generator_of(53)
        for _ in range(150):
            book = parts.random_book(rows, None, rows.randint(1, 7), 1)
            book = book.with_facts(*[parts.random_fact(rows, 1, list(book.names)) for _ in range(2)])
            result = lean(book)
            self.assertTrue(set(result.facts) <= set(book.facts) and tells(result, book))
            self.same([result.names, result.hidden], [book.names, book.hidden])
            self.assertFalse(any(is_spare(result, fact) for fact in result.facts))

    def test_spare(self):
        book = loose("", "a=b", "b=c", "a=c", "a=d => b=d", "d=e")
        self.same([is_spare(book, fact) for fact in book.facts], [True, True, True, False, True])
        for fact in (read_fact("a=d"), read_fact("a=c => b=d"), NEVER, read_fact("z=zz")):
            self.raises(InvalidFact, is_spare, book, fact)

    def test_cores(self):
        book = loose("", "a=b", "b=c", "a=c", "c=d", "a=d")
        fact = read_fact
        self.same(list(cores(book, fact("a=c"))), [
            (fact("a=c"),), (fact("a=b"), fact("b=c")), (fact("a=d"), fact("c=d"))])
        self.same(list(cores(book, fact("b=d"))), [
            (fact("a=b"), fact("a=d")), (fact("b=c"), fact("c=d")), (fact("a=b"), fact("a=c"), fact("c=d")),
            (fact("a=c"), fact("a=d"), fact("b=c"))])
        self.same([list(cores(book, fact("a=b => a=b"))), list(cores(book, fact("a=b => never")))], [[()], []])
        self.same(list(cores(EMPTY, fact("a=b"))), [(NEVER,)])

    def test_cores_against_all_parts(self):
        rows = samples.generator_of(54)
        found = 0
        for _ in range(60):
            book = parts.random_book(rows, None, rows.randint(1, 6), 1)
            fact = parts.random_fact(rows, 1, list(book.names))
            expected = []
            for many in range(len(book) + 1):
                for some in itertools.combinations(book.facts, many):
                    part = Book(*some, names=book.names)
                    if parts.plain_follows(part, fact) and not any(set(core) <= set(some) for core in expected):
                        expected.append(some)
            self.same(list(cores(book, fact)), expected)
            found += len(expected) > 1
        self.assertGreater(found, 0)

    def test_ten_and_eleven_facts(self):
        texts = [f"x{letter}=y{letter}" for letter in "abcdefghijk"]
        book = loose("", *texts[:10])
        fact = loose_fact(" & ".join(texts[:1]) + " => xa=yb")
        self.same(list(cores(book, fact)), [])
        self.same(list(cores(book, loose_fact("xa=yb => ya=yb"))), [(loose_fact("xa=ya"),)])
        self.same(self.raises(TooMany, next, cores(loose("", *texts), fact)).limit, 10)
        self.raises(InvalidFact, next, cores(loose("", *texts), read_fact("a=b")))

    def test_two_generators_at_once(self):
        book = loose("", "a=b", "b=c", "a=c", "c=d", "a=d")
        one, other = cores(book, read_fact("a=c")), cores(book, read_fact("b=d"))
        told = [next(one), next(other), next(one), next(other), next(other)]
        self.same(told[0::2][:2] + list(one), list(cores(book, read_fact("a=c"))))
        self.same([told[1], told[3], told[4], *other], list(cores(book, read_fact("b=d"))))

    def test_great_books(self):
        book = Book(*parts.book_of_nodes(60))
        more = book.renamed_by({name: "y" + name[1:] for name in book.names})
        both = book | more
        self.same([len(both.nodes), follows(both, book.facts[0]), len(lean(both))], [120, True, 60])
        fact = ((), ((book.nodes[0]), (more.nodes[0])))
        self.same([follows(both, fact), is_follow_paper(both, fact, follow_paper(both, fact)), tells(both, book)],
                  [False, True, True])


if __name__ == "__main__":
    unittest.main()
