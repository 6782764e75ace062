"""[0.6], [0.13], [10.1] to [10.3]: books that fit, and growths that are glued."""

import itertools
import unittest

from shownpart.base.facts import read_fact
from shownpart.base.terms import make_term
from shownpart.base.worlds import World
from shownpart.books.books import Book, are_apart
from shownpart.closing.closing import Closing, is_empty
from shownpart.errors import InvalidBook, InvalidOperation, InvalidWorld, PartError, Unfit
from shownpart.growths.growths import carries, grown, is_growth
from shownpart.shown import fitting
from shownpart.shown.fitting import (
    first_unfit, fit_paper, fits, fits_all, glued, is_fit_paper, require_fit, require_fit_all,
)
from shownpart.shown.shown import shown
from tests import parts, samples
from tests.checks import Case
from tests.parts import EMPTY, GATES, NEVER, ODD, PAIRED, RING, f, loose, plain_signature
from tests.samples import A, B, C, D, E
from tests.test_follows import plain_judge

INTERFACE = {
    "fits": "(*books)", "fits_all": "(books)", "require_fit": "(*books)", "require_fit_all": "(books)",
    "fit_paper": "(books)", "is_fit_paper": "(books, value)", "first_unfit": "(books)", "glued": "(world, one, other)",
}
MET = Book.read("a=c")
NOT_MET = Book.read("a=c\nb=d => never")
# Each two of these fit, and all three do not.
THREE = (Book.read("a=b"), Book.read("b=c"), Book.read("a=c => never"))
NO_BOOKS = [value for value in ODD if not isinstance(value, Book)]
OF_TUPLES = (fits_all, require_fit_all, fit_paper, first_unfit, lambda books: is_fit_paper(books, 1))


def whole_of(books):
    """The book of all of them, one joined behind the other."""
    whole = Book()
    for book in books:
        whole = whole | book
    return whole


class TestInterface(Case):
    def test_names_and_parameters(self):
        for name, parameters in INTERFACE.items():
            action = getattr(fitting, name)
            self.same([plain_signature(action), action.__module__], [parameters, "shownpart.shown.fitting"])


class TestErrors(Case):
    def test_what_is_no_tuple_of_books(self):
        for value in ODD:
            for action in OF_TUPLES:
                if value != ():
                    self.raises(InvalidBook, action, value)
        for value in NO_BOOKS:
            for books in ((value,), (RING, value), (value, RING, RING), (RING, RING, value), (RING, value, value)):
                for action in OF_TUPLES:
                    self.raises(InvalidBook, action, books)
                for action in (fits, require_fit):
                    self.raises(InvalidBook, action, *books)
        for action in OF_TUPLES:
            self.raises(InvalidBook, action, [MET, NOT_MET])

    def test_books_that_are_not_apart(self):
        for books in ((RING, RING), (RING, PAIRED), (PAIRED, MET, PAIRED), (MET, Book.read("a=e"), RING),
                      (MET, loose("", "b=a(c)")), (MET, NOT_MET, Book(names={"a": 1})), (EMPTY, EMPTY),
                      (EMPTY, Book.read("a=e"))):
            for action in OF_TUPLES:
                self.raises(InvalidOperation, action, books)
            for action in (fits, require_fit):
                self.raises(InvalidOperation, action, *books)

    def test_a_book_with_itself(self):
        self.raises(InvalidOperation, fits, RING, RING)
        self.same([fits(MET, MET), fits(MET, MET, MET), fits(NOT_MET, NOT_MET), fits(Book(), Book())], [True] * 4)
        never = Book(NEVER)
        self.same([fits(never, never), first_unfit((never, never))], [False, 1])

    def test_unfit_keeps_a_paper(self):
        for books in ((PAIRED, NOT_MET), THREE, (Book(NEVER),), (MET, EMPTY, Book.read("a=z"))):
            for error in (self.raises(Unfit, require_fit, *books), self.raises(Unfit, require_fit_all, books)):
                self.same([error.paper[0], is_fit_paper(books, error.paper)], ["unfit", True])
                self.assertNotIsInstance(error, PartError)
                self.assertIsInstance(error, RuntimeError)
        for books in ((), (RING,), (PAIRED, MET), THREE[:2], THREE[1:]):
            self.same([require_fit(*books), require_fit_all(books)], [None, None])

    def test_wrong_worlds_and_growths(self):
        near = World(2, a=(0, {}), f=(1, {(0,): 1}))
        wrong = [near.only("a"), near.with_table("f", 1, {}), near.with_table("f", 2, {}), World.of(2, 1, {
            "a": (0, {(): 0}), "f": (1, {(1,): 0})}), World(1, a=(0, {}), f=(1, {})), World(3), near.copied((1, 0))]
        self.assertTrue(wrong[3].at("a") == near.at("a") and wrong[3].at("f", 0) == near.at("f", 0))
        for value in [*[value for value in ODD if not isinstance(value, World)]]:
            self.raises(InvalidWorld, glued, value, value, value)
            self.raises(InvalidWorld, glued, value, near, near)
            self.raises(InvalidWorld, glued, near, value, near)
            self.raises(InvalidWorld, glued, near, near, value)
        for value in wrong:
            self.raises(InvalidWorld, glued, near, value, near)
            self.raises(InvalidWorld, glued, near, near, value)
            # The growths are looked at ahead of whether they go together.
            more = near.with_table("k", 0, {})
            self.raises(InvalidWorld, glued, near, more, value.with_table("k", 0, {}))
        more = near.with_table("k", 0, {}).with_table("h", 1, {})
        for other in (more, near.with_table("k", 0, {(): 1}), near.with_table("h", 1, {}), near.with_table("k", 1, {}),
                      near.with_table("h", 0, {})):
            self.raises(InvalidOperation, glued, near, more, other)
            self.raises(InvalidOperation, glued, near, other, more)
            # With these names in the world both go together again, unless they have other places there.
            self.same(glued(more, more, more) == more, True)
        for values in ((near, near), (near, more), (more, near)):
            glued(near, *values)


class TestFits(Case):
    def test_results(self):
        for books, told in (((), True), ((RING,), True), ((PAIRED, NOT_MET), False), ((NOT_MET, PAIRED), False),
                            ((MET, RING.renamed(e="k"), PAIRED), True), ((EMPTY,), False), ((Book(NEVER),), False),
                            ((Book(), Book()), True), (THREE, False), (THREE[:2], True), (THREE[::2], True),
                            (THREE[1:], True), ((EMPTY, Book()), False), ((Book.read("names a/0"), MET), True),
                            ((GATES, Book.read("a=c\nb=g(d) => never")), False),
                            ((GATES, Book.read("b=g(d) => never")), True)):
            before = [book.text for book in books]
            self.same([fits(*books), fits_all(books), fit_paper(books)[0]], [told, told, "fit" if told else "unfit"])
            self.same(is_fit_paper(books, fit_paper(books)), True)
            self.same([book.text for book in books], before)
            self.same(first_unfit(books) is None, told)

    def test_without_books(self):
        self.same([fits(), fits_all(()), require_fit(), require_fit_all(()), first_unfit(())],
                  [True, True, None, None, None])
        kind, world = fit_paper(())
        self.same([kind, is_fit_paper((), (kind, world))], ["fit", True])
        for other in (World(1), World(400, 399, a=(3, {})), Closing(RING).world(), grown(RING, parts.APART)):
            self.same(is_fit_paper((), ("fit", other)), True)
        for value in (("fit", Book()), ("fit", ()), ("fit",), ("unfit", ()), ("fit", World(1), 1), World(1)):
            self.same(is_fit_paper((), value), False)
        self.same(is_fit_paper((), ("unfit", ((None, "fact", (NEVER, ())),))), False)

    def test_first_unfit_is_a_number_of_books(self):
        filler = Book.read("names a/0")
        for k, books in enumerate(((Book(NEVER),), (PAIRED, NOT_MET), THREE, (filler, *THREE), (filler, filler, *THREE),
                                   (*THREE[:2], filler, filler, filler, THREE[2])), 1):
            for further in ((), (filler,), (filler, Book(NEVER)), (MET, filler, filler, Book.read("z=zz"))):
                self.same(first_unfit((*books, *further)), k)
        rows = samples.generator_of(101)
        for _ in range(120):
            books = parts.random_apart_books(rows, 3)
            plain = [many for many in range(4) if is_empty(whole_of(books[:many]))]
            self.same(first_unfit(books), plain[0] if plain else None)

    def test_three_books_of_which_each_two_fit(self):
        self.same([fits(*pair) for pair in itertools.combinations(THREE, 2)], [True] * 3)
        self.same([fits(*books) for books in itertools.permutations(THREE)], [False] * 6)
        self.same([first_unfit(books) for books in itertools.permutations(THREE)], [3] * 6)

    def test_that_parts_fit_exactly_if_their_shown_books_do(self):
        rows = samples.generator_of(102)
        found = {True: 0, False: 0}
        for _ in range(250):
            books = parts.random_apart_books(rows, 3)
            for many in (2, 3):
                told = fits(*books[:many])
                found[told] += 1
                self.same(told, not is_empty(whole_of(books[:many])))
                for which in itertools.product((False, True), repeat=many):
                    others = [shown(book) if change else book for book, change in zip(books, which)]
                    self.same(fits(*others), told)
        self.assertGreater(min(found.values()), 50)

    def test_great_books(self):
        one = Book(*parts.book_of_nodes(80))
        books = tuple(one.renamed_by({name: letter + name[1:] for name in one.names}) for letter in "pqrs")
        self.same([fits(*books), fits(*books, Book.read("paa=pab => never")), first_unfit((*books, Book(NEVER)))],
                  [True, False, 5])
        paper = fit_paper((*books, Book.read("paa=pab => never")))
        self.same(is_fit_paper((*books, Book.read("paa=pab => never")), paper), True)
        self.same(is_fit_paper(books, fit_paper(books)), True)


class TestPapers(Case):
    BOOKS = (PAIRED, NOT_MET)
    WHOLE = PAIRED | NOT_MET

    def test_each_returned_paper_is_right(self):
        rows = samples.generator_of(103)
        found = {"fit": 0, "unfit": 0}
        for _ in range(250):
            books = parts.random_apart_books(rows, rows.randint(1, 3))
            paper = fit_paper(books)
            found[paper[0]] += 1
            whole = whole_of(books)
            self.assertTrue(is_fit_paper(books, paper) and is_fit_paper(books[::-1], paper))
            if paper[0] == "fit":
                self.assertTrue(parts.plain_keeps(paper[1], whole))
                self.assertTrue(set(whole.names.items()) <= set(paper[1].names.items()))
            else:
                self.assertTrue(plain_judge(whole, NEVER, ("steps", paper[1])))
                self.assertFalse(any(word == "given" for _, word, _ in paper[1]))
        self.assertGreater(min(found.values()), 30)

    def test_papers_of_the_other_form_or_of_other_books(self):
        fit, unfit = fit_paper((PAIRED, MET)), fit_paper(self.BOOKS)
        for paper, books, told in ((fit, (PAIRED, MET), True), (fit, (PAIRED,), True), (fit, (MET,), True),
                                   (fit, self.BOOKS, False), (unfit, self.BOOKS, True), (unfit, (PAIRED, MET), False),
                                   (unfit, (NOT_MET,), False), (unfit, (*self.BOOKS, Book.read("names z/1")), True),
                                   (("fit", unfit[1]), self.BOOKS, False), (("unfit", fit[1]), (PAIRED, MET), False),
                                   (("steps", unfit[1]), self.BOOKS, False), (("world", fit[1]), (MET,), False),
                                   (fit, (PAIRED, MET, Book.read("names z/1")), False), (unfit, (EMPTY,), False)):
            self.same(is_fit_paper(books, paper), told)
        shorter = (Book.read("a=c"), Book.read("a=c => never"), Book.read("b=d"))
        self.same(is_fit_paper(shorter, fit_paper(shorter[:2])), True)

    def test_worlds(self):
        world = fit_paper((PAIRED, MET))[1]
        for other, told in ((world, True), (world.with_table("z", 3, {}), True), (world.only("a", "b", "c", "d"), False),
                            (world.with_table("a", 0, {(): (world.at("c") + 1) % world.size}), False),
                            (world.with_table("f", 1, {}), False), (world.with_table("e", 1, {}), False),
                            (World.of(1, 0, {name: (many, {}) for name, many in PAIRED.names.items()}), True)):
            self.same(is_fit_paper((PAIRED, MET), ("fit", other)), told)

    def test_rows_that_are_changed(self):
        rows = fit_paper(self.BOOKS)[1]
        paper = ("unfit", rows)
        self.same(is_fit_paper(self.BOOKS, paper), True)
        self.same(is_fit_paper(self.BOOKS, ("unfit", (*rows[:-1],))), False)
        self.same(is_fit_paper(self.BOOKS, ("unfit", (((A, C), "given", ()), *rows))), False)
        self.same(is_fit_paper(self.BOOKS, ("unfit", (*rows, rows[0]))), False)
        self.same(is_fit_paper(self.BOOKS, ("unfit", ())), False)
        for value in ODD:
            self.same([is_fit_paper(self.BOOKS, value), is_fit_paper(self.BOOKS, ("unfit", value)),
                       is_fit_paper((MET,), ("unfit", value)), is_fit_paper(self.BOOKS, ("fit", value))], [False] * 4)
        for new in [*ODD, A, (A, C), "link", 2, (1, 2), rows[0], read_fact("a=c")]:
            for value in samples.parts_replaced(paper, new):
                told = isinstance(value, tuple) and value[:1] == ("unfit",) and plain_judge(
                    self.WHOLE, NEVER, ("steps", *value[1:]))
                self.same(is_fit_paper(self.BOOKS, value), told)

    def test_rows_that_are_left_out_moved_or_put_in(self):
        rows = fit_paper(self.BOOKS)[1]
        found = {True: 0, False: 0}
        for k, other in itertools.product(range(len(rows)), repeat=2):
            moved = list(rows)
            moved.insert(other, moved.pop(k))
            further = [*rows[:k], rows[other], *rows[k:]]
            for changed in (tuple(moved), tuple(further), (*rows[:k], *rows[k + 1:]), (*rows, rows[other])):
                told = is_fit_paper(self.BOOKS, ("unfit", changed))
                self.same(told, plain_judge(self.WHOLE, NEVER, ("steps", changed)))
                found[told] += 1
        self.assertGreater(min(found.values()), 3)


def plain_glued(world, one, other):
    """The glued growth, row by row as the document has it."""
    names = {**one.names, **other.names}
    size = one.size + other.size - world.size
    tables = {name: (many, {}) for name, many in names.items()}
    for name, many in names.items():
        for things in itertools.product(range(size), repeat=many):
            value = world.rest
            if name in one and all(thing < one.size for thing in things):
                value = one.at(name, *things)
            elif name in other and not any(world.size <= thing < one.size for thing in things):
                behind = [thing if thing < world.size else thing - one.size + world.size for thing in things]
                value = other.at(name, *behind)
                value = value if value < world.size else value + one.size - world.size
            tables[name][1][things] = value
    return World.of(size, world.rest, tables)


class TestGlued(Case):
    def test_both_orders(self):
        near = World(2, a=(0, {}), b=(0, {(): 1}), c=(0, {}), d=(0, {(): 1}), f=(2, {}))
        second = Book.read("hidden k\nb=f(k,a)")
        one, other = grown(PAIRED, near), grown(second, near)
        for first, last in ((one, other), (other, one)):
            both = glued(near, first, last)
            self.assertTrue(both == plain_glued(near, first, last))
            self.same([both.size, both.rest, both.names], [4, 0, dict(sorted({**near.names, "e": 0, "k": 0}.items()))])
            self.same([both.keeps(PAIRED | second), is_growth(PAIRED | second, near, both)], [True, True])
            # A row with further things of both growths leads to the rest.
            self.same([both.at("f", 2, 3), both.at("f", 3, 2), both.at("f", 2, 0), both.at("f", 3, 0)], [0, 0, 1, 1])
        self.same([glued(near, one, other)(term) for term in (E, ("k",))], [2, 3])
        self.same([glued(near, other, one)(term) for term in (E, ("k",))], [3, 2])
        self.same([glued(near, one, near) == one, glued(near, near, one) == one, glued(near, near, near) == near],
                  [True] * 3)

    def test_random_growths(self):
        rows = samples.generator_of(104)
        for _ in range(150):
            world = parts.random_world(rows, rows.randint(1, 2), {"a": 0, "g": 1})
            growths = []
            for names in ({"e": 0, "k": 1}, {"h": 0, "f": 2}):
                size = world.size + rows.randint(0, 2)
                growth = parts.random_world(rows, size, {**world.names, **names})
                tables = {name: (many, {things: growth.at(name, *things) for things in itertools.product(
                    range(size), repeat=many)}) for name, many in growth.names.items()}
                for name, many in world.names.items():
                    for things in itertools.product(range(world.size), repeat=many):
                        tables[name][1][things] = world.at(name, *things)
                growths.append(World.of(size, world.rest, tables))
            for one, other in (growths, growths[::-1]):
                self.assertTrue(glued(world, one, other) == plain_glued(world, one, other))

    def test_more_things_than_a_world_that_can_be_made(self):
        world = World(399, 398, g=(1, {(398,): 5}))
        one = World(400, 398, g=(1, {(398,): 5, (399,): 7}), e=(0, {(): 399}))
        other = World(400, 398, g=(1, {(398,): 5, (399,): 399}), h=(0, {(): 399}), f=(2, {(399, 0): 399}))
        both = glued(world, one, other)
        self.same([both.size, both.rest, both(E), both(("h",)), both.at("g", 399), both.at("g", 400)],
                  [401, 398, 399, 400, 7, 400])
        self.same([both.at("f", 400, 0), both.at("f", 399, 0), both.at("f", 398, 0)], [400, 398, 398])
        again = glued(both, both, both.with_table("z", 0, {(): 400}))
        self.same([again.size, again(("z",))], [401, 400])

    def test_a_world_carries_books_joined_exactly_if_it_carries_each(self):
        rows = samples.generator_of(105)
        found = {True: 0, False: 0}
        for _ in range(150):
            first, second = parts.random_apart_books(rows, 2)
            self.assertTrue(are_apart(first, second))
            places = {**parts.visible_places(first), **parts.visible_places(second)}
            for size in (1, 2, 3):
                world = parts.random_world(rows, size, places)
                told = carries(first, world) and carries(second, world)
                self.same(carries(first | second, world), told)
                found[told] += 1
                if told:
                    both = glued(world, grown(first, world), grown(second, world))
                    self.assertTrue(both.keeps(first | second) and is_growth(first | second, world, both))
        self.assertGreater(min(found.values()), 30)

    def test_names_of_the_interface(self):
        self.same([make_term("f", A, B), f(A, B), fits(MET, Book.read("c=d"), Book.read("a=d => never")),
                   fits(MET, Book.read("c=d"), Book.read("a=b => never")), D], [f(A, B), f(A, B), False, True, D])


if __name__ == "__main__":
    unittest.main()
