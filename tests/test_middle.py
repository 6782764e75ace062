"""[0.16], [0.20], [11.1] to [11.3]: middle books, and what one part reaches through another one."""

import itertools
import unittest

from shownpart.base.facts import places_in, read_fact
from shownpart.books.books import Book
from shownpart.closing.closing import is_empty
from shownpart.closing.follows import follows
from shownpart.errors import InvalidBook, InvalidOperation, TooMany
from shownpart.shown import middle as module
from shownpart.shown.fitting import fits
from shownpart.shown.middle import are_middles, is_middle, middle, middles, reaches
from shownpart.shown.shown import is_shown, shown
from tests import parts, samples
from tests.checks import Case
from tests.parts import EMPTY, GATES, NEVER, ODD, PAIRED, RING, loose, plain_signature

INTERFACE = {
    "middle": "(first, second)", "is_middle": "(first, second, value)", "middles": "(books)",
    "are_middles": "(books, value)", "reaches": "(first, second, third)",
}
OTHER = Book.read("a=c\nb=d => never")
HALF = Book.read("a=c => b=d")
NO_BOOKS = [value for value in ODD if not isinstance(value, Book)]
# k has seven different terms in the first book, and six in the second one.
SEVEN = loose("k", "k(a)=p", "k(b)=p", "k(c)=p", "k(d)=k(q) & k(a)=k(r) => k(s)=p")
SIX = loose("k", "k(a)=p", "k(b)=p", "k(c)=p", "k(d)=k(q) => k(s)=p")
FIVE_FACTS = loose("k", "k(a)=p", "k(b)=q", "k(a)=r => p=q", "k(b)=s => p=q", "k(a)=k(b) => p=r")
NOT_BOTH = loose("", "a=b", "p=q => never")


class TestInterface(Case):
    def test_names_and_parameters(self):
        for name, parameters in INTERFACE.items():
            action = getattr(module, name)
            self.same([plain_signature(action), action.__module__], [parameters, "shownpart.shown.middle"])


class TestErrors(Case):
    def test_what_is_no_book(self):
        for value in NO_BOOKS:
            for action in (middle, lambda one, other: is_middle(one, other, 1)):
                self.raises(InvalidBook, action, value, value)
                self.raises(InvalidBook, action, value, RING)
                self.raises(InvalidBook, action, RING, value)
            for books in ((value, value, value), (value, RING, RING), (RING, value, RING), (RING, RING, value)):
                self.raises(InvalidBook, reaches, *books)
        for value in ODD:
            for action in (middles, lambda books: are_middles(books, 1)):
                if value != ():
                    self.raises(InvalidBook, action, value)
                if not isinstance(value, Book):
                    self.raises(InvalidBook, action, (RING, RING, value))
                self.raises(InvalidBook, action, [RING])

    def test_books_that_are_not_apart(self):
        unlike = Book(names={"a": 1})
        for first, second in ((RING, RING), (RING, PAIRED), (PAIRED, EMPTY), (RING, Book.read("a=e")), (OTHER, unlike)):
            for one, other in ((first, second), (second, first)):
                self.raises(InvalidOperation, middle, one, other)
                self.raises(InvalidOperation, is_middle, one, other, 1)
                self.raises(InvalidOperation, middles, (one, other))
                self.raises(InvalidOperation, middles, (one, Book(), other))
                self.raises(InvalidOperation, are_middles, (one, other), 1)
                self.raises(InvalidOperation, reaches, one, other, Book())
                self.raises(InvalidOperation, reaches, one, Book(), other)
                self.raises(InvalidOperation, reaches, Book(), one, other)

    def test_common_names_that_the_second_book_lacks(self):
        for first, second, third in ((PAIRED, HALF.renamed(d="p"), OTHER), (OTHER, Book(), OTHER),
                                     (Book(NEVER, names={"a": 0}), Book(NEVER), Book(names={"a": 0})),
                                     (SEVEN, Book(), Book.read("p=q"))):
            self.raises(InvalidOperation, reaches, first, second, third)

    def test_a_book_with_itself(self):
        self.same([middle(OTHER, OTHER), is_middle(OTHER, OTHER, OTHER), reaches(OTHER, OTHER, OTHER)],
                  [None, False, True])
        never = Book(NEVER, names={"a": 0})
        self.same([middle(never, never).text, is_middle(never, never, never), reaches(never, never, never)],
                  ["names a/0\nnever", True, True])


class TestLimits(Case):
    def test_six_and_seven_hidden_terms(self):
        for first, limit in ((SIX, None), (SEVEN, 6), (FIVE_FACTS, 4), (SEVEN.with_facts(*FIVE_FACTS.facts), 6)):
            names = [name for name in first.visible]
            fit = Book(names={name: 0 for name in names})
            unfit = loose("", "p=q", "p=q => never", **{name: 0 for name in names})
            self.same([fits(first, fit), fits(first, unfit)], [True, False])
            # The limits come only if the books do not fit.
            self.same([middle(first, fit), middles((first, fit))], [None, None])
            actions = [lambda: middle(first, unfit), lambda: middles((first, unfit)),
                       lambda: middles((Book(), first, unfit)), lambda: reaches(first, first.renamed(k="kk"), fit)]
            for action in actions:
                if limit is None:
                    action()
                else:
                    self.same(self.raises(TooMany, action).limit, limit)
            # As the last book it is never shown.
            self.assertTrue(are_middles((unfit, first), middles((unfit, first))))
            self.assertTrue(is_middle(unfit, first, middle(unfit, first)))
            # Judges know no limits.
            self.same([is_middle(first, unfit, unfit), is_middle(first, unfit, Book())], [False, True])
            self.same(are_middles((first, unfit), (Book(), Book(), Book(NEVER))), True)
            # An empty book has no limits.
            empty = first.with_facts(NEVER)
            self.same([middle(empty, fit).text, reaches(empty, empty.renamed(k="kk"), fit)],
                      ["names " + ",".join(f"{name}/0" for name in names) + "\nnever", True])
            self.same(are_middles((empty, fit), middles((empty, fit))), True)

    def test_further_names_that_are_hidden(self):
        # Nothing is hidden in these books, but as far as the other ones lack names.
        many = loose("", *[f"{letter}=s{letter}" for letter in "abcdefgh"])
        few = loose("", "a=b", "sa=sb => never")
        self.same(self.raises(TooMany, middle, many, few).limit, 6)
        self.same(self.raises(TooMany, middles, (many, few)).limit, 6)
        all_names = few.with_names(**{name: 0 for name in many.names})
        self.same(is_middle(many, all_names, middle(many, all_names)), True)
        some = few.with_names(c=0, d=0, e=0, f=0, g=0, sc=0, sd=0)
        hidden = [name for name in many.names if name not in some.names]
        self.same(hidden, ["h", "se", "sf", "sg", "sh"])
        self.same(is_middle(many, some, middle(many, some)), True)
        five = loose("", "a=pa", "pa=pb", "pb=pc", "pc=pd", "pd=b", "c=pa")
        unfit = loose("", "a=b => never", "c=a")
        self.same(self.raises(TooMany, middle, five, unfit).limit, 4)
        self.same(middle(five.with_facts(NEVER), unfit).text, "names a/0,b/0,c/0\nnever")
        self.same(is_middle(five, unfit.with_names(pa=0, pc=0), middle(five, unfit.with_names(pa=0, pc=0))), True)
        third = Book(names={"a": 0, "b": 0})
        self.same(self.raises(TooMany, reaches, five, five, third).limit, 4)
        self.same(reaches(five, five, third.with_names(c=0, pa=0, pc=0)), True)
        self.same(reaches(five.with_facts(NEVER), five, third), False)

    def test_the_first_number_with_limits(self):
        # The first two books joined have seven terms that later ones lack, all three of them five facts.
        one = loose("ka", "ka(a)=p", "ka(b)=p", "ka(c)=q")
        two = loose("kb", "kb(a)=p", "kb(b)=q", "kb(c)=q", "kb(p)=kb(q) => p=c")
        three = loose("kc", "kc(a)=p", "kc(b)=q")
        last = loose("", "p=a", "q=p => never")
        books = (one, two, three, last.with_facts(read_fact("p=q")), Book(NEVER))
        self.same([self.raises(TooMany, middles, books[k:]).limit for k in (0, 1)], [6, 6])
        self.same(self.raises(TooMany, middles, (FIVE_FACTS, one, two, NOT_BOTH, Book(NEVER))).limit, 4)
        self.same(self.raises(TooMany, middles, (one, FIVE_FACTS, NOT_BOTH, Book(NEVER))).limit, 6)
        self.same(middles(books[:3]), None)
        self.assertTrue(are_middles(books[3:], middles(books[3:])))
        # Behind a book that is empty with those ahead of it there are none.
        row = middles((Book(NEVER), *books))
        self.assertTrue(are_middles((Book(NEVER), *books), row) and all(map(is_empty, row[1:])))

    def test_the_limits_come_behind_the_other_errors(self):
        self.raises(InvalidBook, middles, (SEVEN, NOT_BOTH, 1))
        self.raises(InvalidOperation, middles, (SEVEN, NOT_BOTH, SIX))
        self.raises(InvalidOperation, middle, SEVEN, SIX)
        self.raises(InvalidBook, reaches, SEVEN, SEVEN, 1)
        self.raises(InvalidBook, reaches, RING, RING, None)
        self.raises(InvalidOperation, reaches, SEVEN, SIX, NOT_BOTH)


class TestMiddle(Case):
    def check(self, first, second, book):
        """Check all that [11.1] says of a middle book."""
        common = {name: many for name, many in first.names.items() if second.names.get(name) == many}
        self.assertTrue(set(book.names.items()) <= set(common.items()) and book.hidden == ())
        self.assertTrue(all(parts.plain_follows(first, fact) for fact in book.facts))
        self.assertTrue(is_empty(book | second) and not fits(book, second))
        self.assertTrue(is_middle(first, second, book))

    def test_results(self):
        for first, second, text in ((PAIRED, OTHER, "a=c => b=d"), (PAIRED, Book.read("a=c"), None),
                                    (EMPTY, Book.read("a=c"), "names a/0\nnever"), (Book(), Book(), None),
                                    (Book(), EMPTY, ""), (EMPTY, Book(), "never"),
                                    (GATES, Book.read("a=c\nb=g(d) => never"), "a=c => b=g(d)"),
                                    (OTHER, HALF, "a=c\nb=d => never")):
            result = middle(first, second)
            self.same(None if result is None else result.text, text)
            if result is not None:
                self.check(first, second, result)

    def test_the_middle_book_is_a_shown_book(self):
        hidden = PAIRED.hide("f")
        self.same([is_shown(hidden, middle(PAIRED, OTHER)), is_shown(OTHER, middle(OTHER, HALF))], [True, True])

    def test_random_books(self):
        rows = samples.generator_of(111)
        found = {True: 0, False: 0}
        for _ in range(400):
            first, second = parts.random_apart_books(rows, 2)
            if not parts.is_within_limits(first, [name for name in first.names if name not in second.visible]):
                continue
            told = fits(first, second)
            found[told] += 1
            result = middle(first, second)
            self.same(result is None, told)
            if not told:
                self.check(first, second, result)
                # What is said of a part by its middle book is enough for the other part.
                self.same([fits(result, second), is_middle(first, second, shown(result))], [False, True])
        self.assertGreater(min(found.values()), 40)

    def test_is_middle(self):
        for value, told in ((HALF, True), (HALF.with_facts(read_fact("a=b")), False), (Book(NEVER), False),
                            (HALF.with_names(f=2), False), (HALF.with_names(e=0), False), (HALF.with_names(z=0), False),
                            (Book(names=HALF.names), False), (HALF.hide("a"), False), (HALF.with_facts(NEVER), False),
                            (HALF.with_facts(read_fact("a=c => a=c")), True), (PAIRED, False), (OTHER, False),
                            (Book.read("a=b => c=d\na=c => b=d"), False), (Book.read("a=c & b=c => b=d"), False)):
            self.same(is_middle(PAIRED, OTHER, value), told)
        for value in ODD:
            self.same([is_middle(PAIRED, OTHER, value), is_middle(PAIRED, Book(), value)], [False, False])
        self.same([is_middle(Book(), Book(NEVER), Book()), is_middle(Book(NEVER), Book(), Book()),
                   is_middle(Book(NEVER), Book(), Book(NEVER))], [True, False, True])

    def test_names_of_both_with_their_places(self):
        first, second = loose("", "a=b", f=2, g=1), loose("", "a=b => never", f=2, h=1)
        for further, told in (({"f": 2}, True), ({"g": 1}, False), ({"h": 1}, False), ({"f": 1}, False), ({}, True)):
            self.same(is_middle(first, second, loose("", "a=b", **further)), told)


class TestMiddles(Case):
    def check(self, books, row):
        """Check all that [11.2] says of a row of middle books."""
        self.same([len(row), row[0].text, row[-1].names, is_empty(row[-1])], [len(books) + 1, "", {}, True])
        for k, book in enumerate(row):
            before = {item for one in books[:k] for item in one.names.items()}
            behind = {item for one in books[k:] for item in one.names.items()}
            self.assertTrue(set(book.names.items()) <= before & behind and book.hidden == ())
            if k:
                whole = row[k - 1] | books[k - 1] | Book(names=book.names)
                self.assertTrue(all(parts.plain_follows(whole, fact) for fact in book.facts))
        self.assertTrue(are_middles(books, row))

    def test_results(self):
        books = (PAIRED, Book.read("a=c"), Book.read("b=d => never"))
        for order in itertools.permutations(books):
            row = middles(order)
            self.check(order, row)
            self.same(middles(order[:2]), None)
        self.same([book.text for book in middles(books)], ["", "a=c => b=d", "b=d", "never"])
        self.same([middles(()), middles((Book(),)), middles((RING,))], [None, None, None])
        self.check((EMPTY,), middles((EMPTY,)))
        self.check((Book(NEVER),) * 3, middles((Book(NEVER),) * 3))
        self.check((Book(), EMPTY, Book()), middles((Book(), EMPTY, Book())))

    def test_random_books(self):
        rows = samples.generator_of(112)
        found = {True: 0, False: 0}
        for _ in range(250):
            books = parts.random_apart_books(rows, 3)
            told = fits(*books)
            try:
                row = middles(books)
            except TooMany:
                self.assertFalse(told)
                continue
            found[told] += 1
            self.same(row is None, told)
            if row is not None:
                self.check(books, row)
        self.assertGreater(min(found.values()), 20)

    def test_are_middles(self):
        books = (PAIRED, Book.read("a=c"), Book.read("b=d => never"))
        row = middles(books)
        never = Book(NEVER)
        for value, told in ((row, True), (list(row), False), (row[:-1], False), ((*row, never), False), (row[1:], False),
                            ((Book(names={"a": 0}), *row[1:]), False), ((never, *row[1:]), False),
                            ((*row[:-1], Book()), False), ((*row[:-1], never.with_names(a=0)), False),
                            ((row[0], row[1].with_names(f=2), *row[2:]), False),
                            ((row[0], row[1].hide("a"), *row[2:]), False),
                            ((row[0], row[1].with_names(z=0), *row[2:]), False),
                            ((row[0], row[2], row[1], row[3]), False), ((row[0], row[2], *row[2:]), False),
                            ((*row[:2], row[2].with_names(a=0), row[3]), False),
                            ((*row[:2], Book(names={"b": 0, "d": 0}), row[3]), False),
                            ((*row[:2], Book(), row[3]), False), ((*row[:2], never, row[3]), False),
                ((row[0], row[1].with_facts(read_fact("a=b & a=c => b=d")), *row[2:]), True),
                            ((row[0], row[1].with_facts(read_fact("a=b")), *row[2:]), False),
                            ((*row[:2], row[2], EMPTY), False), (row[::-1], False)):
            self.same(are_middles(books, value), told)
        for value in ODD:
            self.same([are_middles(books, value), are_middles((), value), are_middles((RING,), value)], [False] * 3)
            for k in range(4):
                if value != row[k]:
                    self.same(are_middles(books, (*row[:k], value, *row[k + 1:])), False)
        self.same([are_middles((), (Book(),)), are_middles((), (Book(NEVER),)), are_middles((), ())], [False] * 3)
        self.same([are_middles((EMPTY,), (Book(), Book(NEVER))), are_middles((RING,), (Book(), Book(NEVER)))],
                  [True, False])

    def test_names_stand_on_both_sides(self):
        books = (Book.read("a=b"), Book.read("names a/0,b/0"), Book.read("a=b => never"))
        row = (Book(), Book.read("a=b"), Book.read("a=b"), Book(NEVER))
        self.same(are_middles(books, row), True)
        self.same(are_middles((books[0], Book(), books[2]), row), True)
        self.same(are_middles((books[0], Book(), books[2].with_names(f=1)), (
            row[0], row[1].with_names(f=1), *row[2:])), False)
        self.same(are_middles((books[0].with_names(f=1), Book(), books[2].with_names(f=1)), (
            row[0], row[1].with_names(f=1), *row[2:])), True)
        self.same(are_middles((books[0].with_names(f=1), Book(), books[2].with_names(f=1)), (
            row[0], row[1].with_names(f=2), *row[2:])), False)


class TestReaches(Case):
    def test_results(self):
        third = Book(names={"a": 0, "b": 0, "c": 0, "d": 0})
        for first, second, told in ((PAIRED, HALF, True), (PAIRED, third, False), (third, third, True), (third, HALF, True),
                                    (PAIRED, loose("", "b=d", a=0, c=0), True), (PAIRED, OTHER, False),
                                    (PAIRED, Book.read("a=c => never").with_names(b=0, d=0), True),
                                    (PAIRED, PAIRED.renamed(e="k"), True), (GATES.hide("g"), third, True)):
            self.same(reaches(first, second, third), told)
        self.same(reaches(GATES, third.with_names(g=1), third.with_names(g=1)), False)
        self.same(reaches(GATES, loose("", "a=c => b=g(d)"), third.with_names(g=1)), True)
        # Only what is over common names of the first and the third one has to follow.
        self.same([reaches(HALF, Book.read("names a/0"), Book.read("names a/0,z/0")),
                   reaches(HALF, Book(), Book()), reaches(Book(NEVER), Book(), Book()),
                   reaches(Book(NEVER), Book(NEVER), Book()), reaches(EMPTY, EMPTY.renamed(e="k"), Book())],
                  [True, True, False, True, True])

    def test_against_shown_books(self):
        rows = samples.generator_of(113)
        found = {True: 0, False: 0}
        for _ in range(400):
            first, second, third = parts.random_apart_books(rows, 3)
            common = [name for name in first.visible if name in third.names]
            second = second.with_names(**{name: first.names[name] for name in common if name not in second.names})
            if not parts.is_within_limits(first, [name for name in first.names if name not in common]):
                continue
            if rows.random() < 0.5:
                second = second.with_facts(*[fact for fact in first.facts if set(places_in(fact)) <= set(common)])
                if not parts.is_within_limits(second):
                    continue
            told = reaches(first, second, third)
            found[told] += 1
            gone = [name for name in first.visible if name not in common]
            book = shown(first.hide(*gone))
            self.same(told, all(parts.plain_follows(second, fact) for fact in book.facts))
            if told:
                for _ in range(5):
                    fact = parts.random_fact(rows, 1, common)
                    self.assertTrue(not follows(first, fact) or follows(second, fact))
        self.assertGreater(min(found.values()), 30)


if __name__ == "__main__":
    unittest.main()
