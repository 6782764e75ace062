"""[0.16] and [0.17]: what holds of all books, and what is false."""

import itertools
import unittest

from shownpart.base.facts import fact_text, make_fact, make_pair, read_fact
from shownpart.base.worlds import worlds_of
from shownpart.books.books import Book
from shownpart.closing.follows import are_alike, follows, is_spare, tells
from shownpart.growths.growths import carries
from shownpart.shown.exchange import are_exchangeable, parting_part
from shownpart.shown.fitting import fits
from shownpart.shown.middle import is_middle, middle
from shownpart.shown.settled import settles, settling_paper
from shownpart.shown.shown import is_shown, left_out, shown
from tests import parts, samples
from tests.checks import Case
from tests.parts import PAIRED, RING, loose
from tests.samples import A, C, E


class TestTrue(Case):
    def test_shown_books(self):
        rows = samples.generator_of(161)
        for _ in range(150):
            book, other = parts.random_apart_books(rows, 2)
            result = shown(book)
            self.assertTrue(all(parts.plain_follows(book, fact) for fact in result.facts) and is_shown(book, result))
            for _ in range(6):
                fact = parts.random_fact(rows, 1, list(book.visible))
                self.same(follows(book, fact), follows(result, fact))
            self.same(fits(book, other), fits(result, other))

    def test_joining_and_hiding_in_any_order(self):
        rows = samples.generator_of(162)
        found = 0
        for _ in range(200):
            first, second = parts.random_apart_books(rows, 2)
            both = first | second
            if not parts.is_within_limits(both):
                continue
            found += 1
            results = [shown(both), shown(shown(first) | second), shown(first | shown(second)),
                       shown(first) | shown(second), shown(second | first)]
            for one in results:
                self.same([one.names, are_alike(one, results[0]), is_shown(both, one)], [results[0].names, True, True])
            # Further names are hidden behind the joining, or ahead of it where the other book lacks them.
            for name in both.visible:
                hidden = first.hide(name) if name in first.names and name not in second.names else both
                if hidden is not both and parts.is_within_limits(hidden) and parts.is_within_limits(both.hide(name)):
                    self.assertTrue(are_alike(shown(both.hide(name)), shown(shown(hidden) | shown(second))))
        self.assertGreater(found, 40)

    def test_nesting(self):
        rows = samples.generator_of(163)
        for _ in range(100):
            book = parts.random_apart_books(rows, 1)[0]
            for names in itertools.permutations(book.hidden):
                result = book
                for name in names:
                    result = left_out(result, name)
                self.assertTrue(are_alike(result, shown(book)))

    def test_middle_books_and_parting_parts(self):
        rows = samples.generator_of(164)
        unfit = parted = 0
        for _ in range(200):
            first, second = parts.random_apart_books(rows, 2)
            gone = [name for name in first.names if name not in second.visible]
            if not fits(first, second) and parts.is_within_limits(first, gone):
                book = middle(first, second)
                unfit += 1
                self.same([tells(first, book), fits(book, second)], [True, False])
            part = parting_part(first, second)
            self.same(part is None, are_exchangeable(first, second))
            if part is not None:
                parted += 1
                self.same(fits(first, part), not fits(second, part))
        self.assertGreater(min(unfit, parted), 20)

    def test_settled_terms(self):
        rows = samples.generator_of(165)
        kinds = set()
        for _ in range(200):
            book = parts.random_book(rows)
            term = rows.choice(book.nodes)
            paper = settling_paper(book, term)
            kinds.add(paper[0])
            self.same(paper[0] == "settled", settles(book, term) is not None)
            if paper[0] == "open":
                one, other = paper[1:]
                visible = book.visible
                self.assertTrue(one.only(*visible) == other.only(*visible) and one.size == other.size)
                self.assertTrue(parts.plain_keeps(one, book) and parts.plain_keeps(other, book))
                self.assertNotEqual(one(term), other(term))
        self.assertEqual(kinds, {"settled", "open", "never"})


class TestFalse(Case):
    """Each sentence of [0.17], with an example at which it fails."""

    def test_facts_without_conditions_are_not_enough(self):
        plain = Book(*[fact for fact in shown(PAIRED).facts if not fact[0]], names=parts.visible_places(PAIRED))
        self.same([is_shown(PAIRED, plain), len(plain)], [False, 0])
        # In a world where a is c and b is not d no plain fact fails that follows, but it does not carry the book.
        cells = [("a",), ("b",), ("c",), ("d",)]
        self.same([follows(PAIRED, ((), make_pair(*pair))) for pair in itertools.combinations(cells, 2)], [False] * 6)

    def test_what_is_shown_is_not_between_nodes(self):
        terms = [node for node in RING.nodes if node not in (E, ("f", E, A), ("f", E, C))]
        pairs = [make_pair(*pair) for pair in itertools.combinations(terms, 2)]
        facts = [make_fact(end, *some) for many in range(len(pairs) + 1) for some in itertools.combinations(pairs, many)
                 for end in [None, *pairs]]
        book = Book(*[fact for fact in facts if follows(RING, fact)], names=parts.visible_places(RING))
        self.same([is_shown(RING, book), tells(book, shown(RING))], [False, False])

    def test_a_name_is_not_left_out_fact_by_fact(self):
        alone = [shown(Book(fact, hidden=("e",))) for fact in PAIRED.facts]
        both = alone[0] | alone[1]
        self.same([len(both), [fact_text(fact) for fact in shown(PAIRED).facts]], [0, ["a=c => b=d"]])
        self.same([tells(PAIRED, both), tells(both, shown(PAIRED))], [True, False])

    def test_three_parts_do_not_fit_although_two_fit_with_a_third(self):
        first, second, third = Book.read("a=b"), Book.read("b=c"), Book.read("a=c => never")
        self.same([fits(first, third), fits(second, third), fits(first, second, third)], [True, True, False])

    def test_a_fact_of_two_parts_joined_is_none_of_one(self):
        first, second, fact = Book.read("a=b").with_names(c=0), Book.read("b=c").with_names(a=0), read_fact("a=c")
        self.same([follows(first | second, fact), follows(first, fact), follows(second, fact)], [True, False, False])

    def test_what_is_settled_in_worlds_of_one_size_is_not_settled(self):
        book = loose("e", "a=b => a=e", "a=c => a=e", "b=c => a=e")
        for size, told in ((1, True), (2, True), (3, False)):
            kept = [world for world in worlds_of(size, book.names) if parts.plain_keeps(world, book)]
            self.assertTrue(kept)
            # With at most two things, two of a, b and c are equal.
            self.same(all(world(E) == world(A) for world in kept), told)
        self.same([settles(book, E), settling_paper(book, E)[0]], [None, "open"])

    def test_two_shown_books_are_not_equal(self):
        book = loose("e", "a=e", "b=e", "c=e")
        one, other = loose("", "a=b", "b=c"), loose("", "a=b", "a=c")
        for result in (one, other):
            self.assertTrue(is_shown(book, result) and not any(is_spare(result, fact) for fact in result.facts))
        self.assertFalse(one == other)

    def test_middle_books_have_an_order(self):
        other = Book.read("a=c\nb=d => never")
        one, second = middle(PAIRED, other), middle(other, PAIRED)
        self.same([is_middle(PAIRED, other, one), is_middle(other, PAIRED, one), is_middle(other, PAIRED, second),
                   is_middle(PAIRED, other, second)], [True, False, True, False])

    def test_plain_facts_do_not_show_plain_facts(self):
        self.assertTrue(all(not conditions for conditions, _ in PAIRED.facts))
        result = shown(PAIRED)
        plain = Book(*[fact for fact in result.facts if not fact[0]], names=result.names)
        self.same([len(plain), is_shown(PAIRED, plain)], [0, False])
        # Each plain fact over visible names that follows holds in this world, which does not carry the book.
        world = next(world for world in worlds_of(2, result.names) if not carries(PAIRED, world))
        for text in ("a=c", "b=d", "a=b", "a=f(a,a)", "b=f(a,c)", "d=f(d,c)"):
            self.assertFalse(follows(PAIRED, read_fact(text)) and not world.holds(read_fact(text)))


if __name__ == "__main__":
    unittest.main()
