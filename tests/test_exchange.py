"""[0.6], [0.16], [0.20], [12.1] to [12.3]: exchangeable parts."""

import itertools
import unittest

from shownpart.base.facts import fact_text, make_fact, places_in, read_fact
from shownpart.books.books import Book, are_apart
from shownpart.closing.follows import follows
from shownpart.errors import InvalidBook, InvalidFact, InvalidOperation, TooMany
from shownpart.shown import exchange as module
from shownpart.shown.cases import hidden_terms
from shownpart.shown.exchange import (
    are_exchangeable, exchange_paper, is_exchange_paper, is_parted, part_against, parting_fact, parting_part,
)
from shownpart.shown.fitting import fits
from shownpart.shown.shown import is_shown, shown
from tests import parts, samples
from tests.checks import Case
from tests.parts import EMPTY, GATES, NEVER, ODD, PAIRED, RING, f, loose, loose_fact, plain_signature
from tests.samples import A, B, C, D

INTERFACE = {
    "are_exchangeable": "(first, second)", "parting_fact": "(first, second)", "is_parted": "(first, second, fact)",
    "exchange_paper": "(first, second)", "is_exchange_paper": "(first, second, value)", "part_against": "(fact)",
    "parting_part": "(first, second)",
}
PLAIN = Book.read("a=c => b=d")
LESS = Book.read("hidden e\nb=f(e,a)")
MET = read_fact("a=c => b=d")
NO_BOOKS = [value for value in ODD if not isinstance(value, Book)]
OF_TWO = (are_exchangeable, parting_fact, exchange_paper, parting_part,
          lambda one, other: is_exchange_paper(one, other, 1), lambda one, other: is_parted(one, other, MET))
LIMITED = (*OF_TWO[:4], lambda one, other: is_exchange_paper(one, other, ("same", Book())),
           lambda one, other: is_exchange_paper(one, other, ("same", RING)))
SIX = loose("k", "k(a)=k(b) & k(c)=k(d) => a=p", "k(b)=q", "k(p)=k(q) => a=b")
SEVEN = SIX.with_facts(loose_fact("a=k(k(a))"))
FOUR = loose("e h", "a=e => a=b", "b=e", "e=h => never", "c=h => b=c", "a=c")
FIVE = FOUR.with_facts(read_fact("a=p => e=h"))


def changed_book(rows, book):
    """A book with a few facts more or less than another one, or other hidden names."""
    visible = [name for name in book.visible]
    for k in range(rows.randint(1, 2)):
        kind = rows.randrange(4)
        if kind == 0:
            book = book.with_facts(parts.random_fact(rows, 1, visible))
        elif kind == 1 and len(book):
            book = book.without_facts(rows.choice(book.facts))
        elif kind == 2 and book.hidden:
            book = book.renamed_by({rows.choice(book.hidden): "zz" + "xy"[k]})
        elif parts.is_within_limits(book):
            book = shown(book) if kind == 2 else book.with_facts(*shown(book).facts)
    return book


class TestInterface(Case):
    def test_names_and_parameters(self):
        for name, parameters in INTERFACE.items():
            action = getattr(module, name)
            self.same([plain_signature(action), action.__module__], [parameters, "shownpart.shown.exchange"])


class TestErrors(Case):
    def test_what_is_no_book(self):
        for value in NO_BOOKS:
            for action in (*OF_TWO, *LIMITED):
                self.raises(InvalidBook, action, value, value)
                self.raises(InvalidBook, action, value, RING)
                self.raises(InvalidBook, action, RING, value)
                self.raises(InvalidBook, action, SEVEN, value)
            self.raises(InvalidBook, is_parted, value, value, value)
            self.raises(InvalidBook, is_parted, RING, value, value)
            self.raises(InvalidBook, is_parted, value, RING, value)

    def test_books_that_are_not_comparable(self):
        for one, other in ((RING, RING.reveal("e")), (RING, Book(names={"e": 0})), (PAIRED, Book(names={"f": 1})),
                           (RING, Book(names={"e": 1}, hidden=("e",))), (PAIRED, RING.hide("a")),
                           (SEVEN, SEVEN.reveal("k"))):
            for first, second in ((one, other), (other, one)):
                for action in (*OF_TWO, *LIMITED):
                    self.raises(InvalidOperation, action, first, second)
                self.raises(InvalidFact, is_parted, first, second, 1)
                self.raises(InvalidOperation, is_parted, first, second, read_fact("zz=zzz"))

    def test_facts_that_are_not_visible_facts_of_the_two(self):
        for value in ODD:
            self.raises(InvalidFact, is_parted, RING, PAIRED, value)
            self.raises(InvalidFact, is_parted, RING, RING.reveal("e"), value)
            self.raises(InvalidFact, part_against, value)
        for text in ("a=e", "b=z", "a=f", "b=f(a)", "a=b & a=z => never", "b=f(e,a)"):
            self.raises(InvalidFact, is_parted, PAIRED, RING, loose_fact(text))
            self.raises(InvalidFact, is_parted, RING, PLAIN, loose_fact(text))
        # A name that is hidden in one alone is no visible name, but further visible names are.
        self.raises(InvalidFact, is_parted, Book(), RING, read_fact("a=e"))
        for text in ("a=b", "b=d", "a=f(b,d)", "never"):
            self.same(is_parted(RING, PLAIN, loose_fact(text)), False)

    def test_judges_accept_every_value(self):
        for value in ODD:
            self.same([is_exchange_paper(PAIRED, PLAIN, value), is_exchange_paper(PAIRED, LESS, value),
                       is_exchange_paper(PAIRED, PLAIN, ("same", value)), is_exchange_paper(PAIRED, LESS, ("parted", value)),
                       is_exchange_paper(PAIRED, LESS, ("same", value)), is_exchange_paper(PAIRED, PLAIN, ("same",)),
                       is_exchange_paper(PAIRED, PLAIN, ("parted", value)),
                       is_exchange_paper(PAIRED, PLAIN, (value, PLAIN))], [False] * 8)


class TestLimits(Case):
    def test_each_of_both_books(self):
        self.same([len(hidden_terms(SIX)), len(hidden_terms(SEVEN))], [6, 7])
        for right in (SIX, FOUR, PLAIN, SEVEN.with_facts(NEVER), FIVE.with_facts(NEVER), SEVEN.reveal("k")):
            for great, limit in ((SEVEN, 6), (FIVE, 4), (FIVE.with_facts(*[loose_fact(f"a=fk(e,{letter})")
                                                                         for letter in "abcde"]), 6)):
                if set(right.visible) & set(great.hidden):
                    continue
                for action in LIMITED:
                    self.same(self.raises(TooMany, action, great, right).limit, limit)
                    self.same(self.raises(TooMany, action, right, great).limit, limit)
                self.same([is_parted(great, right, read_fact("a=b")) in (True, False),
                           is_exchange_paper(great, right, ("parted", read_fact("a=pq"))),
                           is_exchange_paper(great, right, ("same", 1)), is_exchange_paper(great, right, ("same",)),
                           is_exchange_paper(great, right, ("same", Book(), 1)),
                           is_exchange_paper(great, right, ["same", Book()])], [True] + [False] * 5)

    def test_the_first_book_counts_first(self):
        for first, second, limit in ((SEVEN, FIVE, 6), (FIVE, SEVEN, 4), (SEVEN, SEVEN, 6), (FIVE, FIVE, 4)):
            for action in LIMITED:
                self.same(self.raises(TooMany, action, first, second).limit, limit)

    def test_within_the_limits(self):
        for one, other in itertools.product((SIX, FOUR, SEVEN.with_facts(NEVER), FIVE.with_facts(NEVER)), repeat=2):
            for action in LIMITED:
                action(one, other)
        self.same(is_exchange_paper(SEVEN, SEVEN, ("parted", read_fact("a=b"))), False)


class TestResults(Case):
    def check(self, first, second):
        """Check all that is said of two books, and tell whether they are exchangeable."""
        told = are_exchangeable(first, second)
        places = {name: book.names[name] for book in (first, second) for name in book.visible}
        wide = [book.with_names(**places) for book in (first, second)]
        paper, fact, part = exchange_paper(first, second), parting_fact(first, second), parting_part(first, second)
        self.same([paper[0], fact is None, part is None], ["same" if told else "parted", told, told])
        for one, other in ((first, second), (second, first)):
            self.same([are_exchangeable(one, other), is_exchange_paper(one, other, paper)], [told, True])
        if told:
            self.same([is_shown(book, paper[1]) for book in wide], [True, True])
        else:
            self.assertTrue(set(places_in(fact).items()) <= set(places.items()))
            self.same(sorted(parts.plain_follows(book, fact) for book in wide), [False, True])
            self.assertTrue(is_parted(first, second, fact) and is_parted(second, first, fact))
            self.same([part.hidden, are_apart(part, first), are_apart(part, second)], [(), True, True])
            self.same(sorted([fits(first, part), fits(second, part)]), [False, True])
        return told

    def test_told_books(self):
        for first, second, told in ((PAIRED, PLAIN, True), (PAIRED, LESS, False), (PAIRED, PAIRED, True),
                                    (RING, RING.with_facts(loose_fact("b=f(b,a)")), False), (EMPTY, EMPTY, True),
                                    (EMPTY, Book(NEVER), True), (Book(), Book(), True), (Book(), LESS, True),
                                    (Book(NEVER), LESS, False), (PAIRED, shown(PAIRED), True), (RING, shown(RING), True),
                                    (PAIRED, PAIRED.renamed(e="k"), True), (RING, PAIRED, False),
                                    (GATES, shown(GATES), True), (GATES, Book(), False), (GATES, GATES.hide("d"), False)):
            if first is GATES and second.hidden == ("d", "e", "h"):
                self.raises(InvalidOperation, are_exchangeable, first, second)
            else:
                self.same(self.check(first, second), told)

    def test_a_name_that_is_hidden_in_both_stands_for_two_functions(self):
        one, other = loose("e", "a=e"), loose("e", "b=e")
        # Joined under one name they would tell a=b.
        self.same([self.check(one, other), parting_fact(one, other)], [True, None])
        self.same(fits(one, other.renamed(e="k"), Book.read("a=b => never")), True)
        one, other = loose("e", "a=e", "b=e => never"), loose("e", "b=e", "a=e => never")
        self.same(self.check(one, other), True)
        self.same(exchange_paper(one, other)[1].text, "a=b => never")
        one, other = loose("k", "b=k(a)", "d=k(c)"), loose("k", "d=k(a)", "b=k(c)")
        self.same([self.check(one, other), exchange_paper(one, other)[1].text], [True, "a=c => b=d"])
        self.same([self.check(loose("e", "a=f(e,b)"), loose("e", "b=f(a,e)")),
                   self.check(loose("e", "a=e", "b=e"), loose("e", "a=e", "c=e"))], [True, False])

    def test_names_that_only_one_of_them_has(self):
        for first, second, told in ((Book.read("names z/1"), Book(), True), (Book.read("a=z"), Book(), False),
                                    (Book.read("a=z"), Book.read("a=y"), False), (PAIRED, Book.read("names z/0"), False),
                                    (loose("e", "a=e"), loose("h", "z=h"), True), (Book(NEVER), EMPTY, True)):
            self.same(self.check(first, second), told)
        fact = read_fact("a=z")
        self.same([is_parted(Book.read("a=z"), Book(), fact), is_parted(Book(), Book.read("a=z"), fact),
                   is_parted(Book.read("names a/0"), Book.read("names z/0"), fact),
                   is_parted(Book(NEVER), Book.read("names a/0,z/0"), fact)], [True, True, False, True])
        # A part that parts them can have names of one of them alone.
        self.same([parting_fact(Book.read("a=z"), Book()), parting_part(Book.read("a=z"), Book()).text],
                  [fact, "a=z => never"])

    def test_random_books(self):
        rows = samples.generator_of(121)
        found = {True: 0, False: 0}
        while sum(found.values()) < 300:
            first = parts.random_apart_books(rows, 1)[0]
            second = changed_book(rows, first) if rows.random() < 0.8 else parts.random_apart_books(rows, 1)[0]
            if not parts.is_within_limits(second) or set(first.hidden) & set(second.visible):
                continue
            told = self.check(first, second)
            found[told] += 1
            if told:
                self.check_facts(rows, first, second)
        self.assertGreater(min(found.values()), 60)

    def check_facts(self, rows, first, second):
        """Check that exchangeable books tell the same, and fit with the same parts."""
        names = [name for name in first.visible if name in parts.PLACES]
        for _ in range(8):
            fact = parts.random_fact(rows, 1, names)
            self.same(is_parted(first, second, fact), False)
            part = Book(fact, *[parts.random_fact(rows, 1, names) for _ in range(2)])
            self.same(fits(first, part), fits(second, part))
            self.same(fits(first, part_against(fact)), not follows(first, fact))

    def test_parted_facts(self):
        for text, told in (("a=c => b=d", True), ("a=c & b=f(a,a) => b=d", True), ("a=c => b=f(a,a)", False),
                           ("b=d => b=d", False), ("never", False), ("a=c & b=d => never", False)):
            self.same([is_parted(PAIRED, LESS, read_fact(text)), is_parted(LESS, PAIRED, read_fact(text))], [told] * 2)
        self.same(is_parted(PAIRED, PLAIN, MET), False)


class TestPapers(Case):
    def test_books(self):
        right = exchange_paper(PAIRED, PLAIN)
        self.same([right[0], is_exchange_paper(PAIRED, PLAIN, right)], ["same", True])
        for book, told in ((right[1], True), (PLAIN.with_names(f=2), True), (PLAIN, False),
                           (PLAIN.with_names(f=2, e=0), False), (PLAIN.with_names(f=1), False), (PAIRED, False),
                           (right[1].with_facts(read_fact("a=b & a=c => b=d")), True), (right[1].hide("f"), False),
                           (right[1].with_facts(read_fact("a=b")), False), (Book(names=right[1].names), False),
                           (right[1].with_facts(NEVER), False)):
            self.same([is_exchange_paper(PAIRED, PLAIN, ("same", book)), is_exchange_paper(PLAIN, PAIRED, ("same", book))],
                      [told, told])
            self.same([is_exchange_paper(PAIRED, LESS, ("same", book)), is_exchange_paper(PAIRED, PLAIN, ("parted", book)),
                       is_exchange_paper(PAIRED, PLAIN, ["same", book]), is_exchange_paper(PAIRED, PLAIN, (book, "same")),
                       is_exchange_paper(PAIRED, PLAIN, ("same", book, book)), is_exchange_paper(PAIRED, PLAIN, book)],
                      [False] * 6)
        # It is a shown book of each of the two, with the further names of the other one.
        self.same([is_exchange_paper(PAIRED, LESS, ("same", shown(PAIRED))),
                   is_exchange_paper(PAIRED, LESS, ("same", shown(LESS).with_names(c=0, d=0)))], [False, False])

    def test_facts(self):
        paper = exchange_paper(PAIRED, LESS)
        self.same([paper[0], is_exchange_paper(PAIRED, LESS, paper)], ["parted", True])
        for text, told in (("a=c => b=d", True), ("a=c & b=f(a,a) => b=d", True), ("b=d", False), ("a=e", False),
                           ("a=c => b=z", False), ("never", False), ("a=c => b=f(e,a)", False), ("b=f(d)", False)):
            fact = loose_fact(text)
            self.same([is_exchange_paper(PAIRED, LESS, ("parted", fact)), is_exchange_paper(LESS, PAIRED, ("parted", fact)),
                       is_exchange_paper(PAIRED, PLAIN, ("parted", fact)), is_exchange_paper(PAIRED, LESS, ("same", fact)),
                       is_exchange_paper(PAIRED, LESS, ("parted", fact, ()))], [told, told, False, False, False])
        for new in [*ODD, A, (A, C), MET, (B, D)]:
            for value in samples.parts_replaced(("parted", MET), new):
                right = False
                if isinstance(value, tuple) and len(value) == 2 and value[0] == "parted" and samples.plain_fact(value[1]):
                    fact = value[1]
                    if set(places_in(fact).items()) <= set(parts.visible_places(PAIRED).items()):
                        wide = LESS.with_names(c=0, d=0)
                        right = parts.plain_follows(PAIRED, fact) != parts.plain_follows(wide, fact)
                self.same(is_exchange_paper(PAIRED, LESS, value), right)


class TestPartAgainst(Case):
    def test_results(self):
        for text, result in (("a=c => b=d", "a=c\nb=d => never"), ("never", ""), ("a=b => never", "a=b"),
                             ("a=b", "a=b => never"), ("a=b & c=f(d) => a=g(b,c)", "a=b\nc=f(d)\na=g(b,c) => never"),
                             ("a=b => a=b", "a=b\na=b => never")):
            part = part_against(read_fact(text))
            self.same([part.text, part.hidden, part.names], [result, (), places_in(read_fact(text))])

    def test_that_it_fits_exactly_if_the_fact_does_not_follow(self):
        rows = samples.generator_of(122)
        found = {True: 0, False: 0}
        for _ in range(400):
            book = parts.random_book(rows, None, rows.randint(1, 5), 1)
            fact = parts.random_fact(rows, 1, list(book.visible))
            if rows.random() < 0.4 and not set(places_in(book.facts[0])) & set(book.hidden):
                fact = make_fact(book.facts[0][1], *book.facts[0][0], parts.random_pair(rows, 1, list(book.visible)))
            told = parts.plain_follows(book, fact)
            found[told] += 1
            self.same([fits(book, part_against(fact)), are_apart(book, part_against(fact))], [not told, True])
        self.assertGreater(min(found.values()), 50)

    def test_great_facts(self):
        terms = parts.cells(100)
        fact = make_fact(None, *[(terms[k], terms[k + 1]) for k in range(0, 100, 2)])
        part = part_against(fact)
        self.same([len(part), len(part.nodes), fact_text(part.facts[0])], [50, 100, "xaa=xab"])
        deep = make_fact((samples.chain(40), f(A, samples.chain(39))), (samples.chain(39, B), A))
        self.same(len(part_against(deep)), 2)


if __name__ == "__main__":
    unittest.main()
