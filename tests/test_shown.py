"""[0.12], [0.16], [0.20], [9.1] to [9.3]: shown books."""

import itertools
import unittest

from shownpart.base.facts import fact_text, places_in, read_fact
from shownpart.base.terms import levels, size_of
from shownpart.base.worlds import worlds_of
from shownpart.books.books import Book, are_apart
from shownpart.closing.closing import Closing, is_empty
from shownpart.closing.follows import are_alike, follows, is_spare, tells
from shownpart.errors import InvalidBook, InvalidName, TooMany, UnknownName
from shownpart.growths.growths import carries
from shownpart.shown import shown as module
from shownpart.shown.cases import hidden_terms
from shownpart.shown.shown import is_shown, left_out, left_out_all, missing_fact, shown, shown_facts
from tests import parts, samples
from tests.checks import Case
from tests.parts import EMPTY, GATES, NEVER, ODD, PAIRED, RING, f, loose, plain_signature
from tests.samples import A, B

INTERFACE = {
    "shown": "(book)", "left_out": "(book, *names)", "left_out_all": "(book, names)", "is_shown": "(book, value)",
    "missing_fact": "(book, other)", "shown_facts": "(book)",
}
RINGS = loose("e h", "a=b => e=g(h)", "a=c => h=g(e)", "b=c => e=a", "f(e,h)=d")
TOWER = loose("e", "a=g(e)", "b=g(g(e))", "g(g(g(e)))=e => a=c", "e=d => g(d)=c")
CHAIN = loose("ea eb ec", "p=q => ea=eb", "r=s => eb=ec", "t=u => ec=d", "v=w => ea=c")
OWN = loose("k", "b=k(a)", "c=k(k(a))", "k(c)=d", "k(k(d))=a => never")
MANY = loose("k", "k(a)=k(b) & k(c)=k(d) => never", "k(a)=k(c) & k(b)=k(d) => p=q", "k(a)=r => k(b)=r",
             "k(d)=r => k(c)=r")
BOOKS = (PAIRED, RING, GATES, EMPTY, RINGS, TOWER, CHAIN, OWN, MANY, Book(),
         Book(names={"a": 0, "k": 3}, hidden=("k",)),
         loose("", "a=b => c=d", "a=b", "c=d"), loose("e", "a=e", "b=e", "a=b => never"),
         loose("e", "a=b & c=d => a=e", "b=e", "a=b => c=d"), loose("e f", "f(e,a)=b", "f(e,b)=a => c=e", "f(c,a)=d"))


def told(book):
    return [fact_text(fact) for fact in book.facts]


class Shown(Case):
    def check(self, book, result, *gone):
        """Check all that [9.1] and [9.2] say of a book that comes from leaving out hidden names."""
        names = {name: many for name, many in book.names.items() if name not in gone}
        hidden = tuple(name for name in book.hidden if name not in gone)
        self.same([result.names, result.hidden], [names, hidden])
        for fact in result.facts:
            self.assertTrue(follows(book, fact))
            self.assertFalse(is_spare(result, fact))
            for k in range(len(fact[0])):
                self.assertFalse(follows(book, (fact[0][:k] + fact[0][k + 1:], fact[1])))

    def check_worlds(self, book, result, worlds):
        for world in worlds:
            self.same(carries(book, world), parts.plain_keeps(world, result))


class TestInterface(Case):
    def test_names_and_parameters(self):
        for name, parameters in INTERFACE.items():
            action = getattr(module, name)
            self.same([plain_signature(action), action.__module__], [parameters, "shownpart.shown.shown"])


class TestErrors(Case):
    def test_wrong_books(self):
        for value in ODD:
            if not isinstance(value, Book):
                self.raises(InvalidBook, missing_fact, value, RING)
                for action in (shown, left_out, lambda book: left_out(book, 1), lambda book: left_out_all(book, 1),
                               lambda book: is_shown(book, 1), lambda book: missing_fact(book, 1),
                               lambda book: next(shown_facts(book))):
                    self.raises(InvalidBook, action, value)

    def test_wrong_names(self):
        for value in [*ODD, "a", "z", "f"]:
            self.assertIs(self.raises(UnknownName, left_out, RING, value).name, value)
            self.assertIs(self.raises(UnknownName, left_out, RING, "e", value, "a").name, value)
        for value in ODD:
            if value not in ((), ("a", "b")):
                self.raises(InvalidName, left_out_all, RING, value)
            self.raises(InvalidName, left_out_all, RING, ("a", value))
        for names in (["e"], "e", {"e": 0}):
            self.raises(InvalidName, left_out_all, RING, names)
        self.same(self.raises(UnknownName, left_out_all, RING, ("e", "z", "a")).name, "z")
        self.same(self.raises(UnknownName, left_out_all, RING, ("a", "e")).name, "a")
        great = MANY.with_facts(*[read_fact(f"k({letter})={letter}") for letter in "pqrs"])
        self.same(self.raises(UnknownName, left_out, great, "k", "a").name, "a")

    def test_books_that_are_not_over_the_visible_names(self):
        right = Book(names=parts.visible_places(RING))
        others = [value for value in ODD if not isinstance(value, Book)]
        for value in [*others, RING, Book(), right.with_names(z=0), right.hide("a"), right.with_names(e=0),
                      Book(names={"a": 0, "b": 0, "c": 0, "f": 1}), right.hide("a").reveal("a").hide("b")]:
            self.raises(InvalidBook, missing_fact, RING, value)
            self.same(is_shown(RING, value), False)

    def test_judges_accept_every_value(self):
        for value in ODD:
            self.same(is_shown(RING, value), False)
            self.same(is_shown(Book(), value), value == Book())


class TestLimits(Case):
    def check(self, book, limit):
        right = Book(names=parts.visible_places(book))
        actions = [lambda: shown(book), lambda: left_out(book, *book.hidden), lambda: left_out_all(book, book.hidden),
                   lambda: is_shown(book, right), lambda: missing_fact(book, right), lambda: list(shown_facts(book))]
        for action in actions:
            if limit is None:
                action()
            else:
                self.same(self.raises(TooMany, action).limit, limit)
        # For what is no shown book in any case the limits do not count.
        self.same([is_shown(book, value) for value in (1, RING, right.with_names(z=0),
                                                       right.with_names(z=0).hide("z"))],
                  [False] * 4)
        self.raises(InvalidBook, missing_fact, book, right.with_names(z=0))

    def test_six_and_seven_hidden_terms(self):
        six = loose("k", "k(a)=k(b) & k(c)=k(d) => a=p", "k(b)=q", "k(p)=k(q) => a=b")
        self.same(len(hidden_terms(six)), 6)
        self.check(six, None)
        seven = six.with_facts(read_fact("a=k(k(a))"))
        self.same(len(hidden_terms(seven)), 7)
        self.check(seven, 6)
        self.check(seven.with_facts(NEVER), None)
        self.check(seven.reveal("k"), None)
        self.check(seven.without_facts(read_fact("k(b)=q")).without_facts(read_fact("a=k(k(a))")), None)

    def test_hidden_names_in_four_and_in_five_facts(self):
        four = loose("e h", "a=e => a=b", "b=e", "e=h => never", "c=h => b=c", "a=c", "a=b => b=c", "c=d")
        self.check(four, None)
        self.check(four.with_facts(read_fact("a=p => e=h")), 4)
        self.check(four.with_facts(read_fact("a=p => e=h"), NEVER), None)
        self.check(four.with_facts(*[read_fact(f"a=f(e,{letter})") for letter in "abcde"]), 6)

    def test_left_out_counts_only_these_names(self):
        book = loose("e h", "a=e", "b=e", "c=e => a=b", "a=d => e=h", "g(h)=h", "h=d => g(g(h))=a")
        self.same(len(hidden_terms(book)), 4)
        self.same(self.raises(TooMany, shown, book).limit, 4)
        self.same(self.raises(TooMany, left_out, book, "e", "h").limit, 4)
        for names in (("e",), ("h",), ()):
            left_out(book, *names)
        once = left_out(book, "h")
        self.same(are_alike(left_out(once, "e"), shown(once)), True)
        many = loose("e", *[f"{letter}=s({letter})" for letter in "abcdefgh"])
        self.same([len(left_out(many)), len(left_out(many, "e"))], [8, 7])
        many = many.hide("a", "b", "c", "d")
        self.same([self.raises(TooMany, shown, many).limit, left_out(many, "a", "b", "c").hidden], [6, ("d", "e")])

    def test_the_limits_come_behind_the_other_errors(self):
        great = MANY.with_facts(*[read_fact(f"k({letter})={letter}") for letter in "pqs"])
        self.same(self.raises(TooMany, shown, great).limit, 6)
        self.raises(InvalidName, left_out_all, great, ["k"])
        self.raises(InvalidBook, missing_fact, great, great)


class TestResults(Shown):
    def test_told_books(self):
        for book, lines in ((PAIRED, ["a=c => b=d"]), (GATES, ["a=c => b=g(d)"]), (Book(), []), (EMPTY, ["never"]),
                            (loose("e", "a=e", "b=e", "a=b => never"), ["never"]),
                            (loose("", "a=b", "a=b => c=d"), ["a=b", "c=d"]),
                            (loose("e", "a=e => c=d", "b=e"), ["a=b => c=d"]), (loose("e", "a=e => b=e"), []),
                            (loose("e", "a=g(e)", "b=g(e)"), ["a=b"]), (loose("k", "k(a)=b", "k(c)=d => never"), [
                                "a=c & b=d => never"]), (loose("e", "g(e)=a", "e=b => c=d"), []),
                            (CHAIN, ["p=q & r=s & t=u & v=w => c=d"])):
            self.same(told(shown(book)), lines)

    def test_all_books(self):
        for book in BOOKS:
            before = book.text
            result = shown(book)
            self.check(book, result, *book.hidden)
            self.same([is_shown(book, result), missing_fact(book, result)], [True, None])
            self.assertTrue(result == left_out(book, *book.hidden) == left_out_all(book, book.hidden) == shown(book))
            self.assertTrue(are_alike(shown(result), result) and is_shown(result, result))
            self.same([shown(book.reveal(*book.hidden)).names, book.text], [book.names, before])
            self.check_facts(book, result)

    def check_facts(self, book, result):
        facts = list(shown_facts(book))
        self.same(len({fact_text(fact) for fact in facts}), len(facts))
        self.assertTrue(all(set(places_in(fact)) <= set(book.visible) for fact in facts))
        other = Book(*facts, names=parts.visible_places(book))
        self.assertTrue(is_shown(book, other) and are_alike(other, result))

    def test_over_all_worlds_of_one_and_two_things(self):
        for book in BOOKS:
            worlds = [world for size in (1,
                                         2) for world in itertools.islice(worlds_of(size, parts.visible_places(book)),
                                                                          3000)]
            self.check_worlds(book, shown(book), worlds)

    def test_deeper_terms_than_the_nodes(self):
        result = shown(RING)
        self.same(max(levels(node) for node in RING.nodes), 2)
        tower = loose("e", "a=b => e=c", "g(g(e))=d")
        self.same(told(shown(tower)), ["a=b => d=g(g(c))"])
        deep = loose("e", "a=b => e=g(g(g(c)))", "f(e,f(e,e))=d")
        self.same(told(shown(deep)), ["a=b => d=f(g(g(g(c))),f(g(g(g(c))),g(g(g(c)))))"])
        self.check(RING, result, "e")
        wide = loose("e", "a=b => e=f(c,c)", "s(e,e,e)=h", "s(h,h,h)=d", "s(s(s(e,e,e),h,e),e,e)=p").hide("h")
        self.check(wide, shown(wide), "e", "h")
        self.assertGreater(max(size_of(node) for node in shown(wide).nodes), 10)

    def test_forty_levels(self):
        chain = samples.chain(36)
        book = Book(((), (A, ("s", ("e",)))), (((A, B),), (chain, ("e",)) if chain < ("e",) else (("e",), chain)),
                    hidden=("e",))
        self.same(shown(book).facts, ((((A, B),), (A, ("s", chain))),))
        great = samples.full_tree(7)
        book = Book(((), (("e",), great)), ((), (B, f(("e",), f(("e",), ("e",))))), hidden=("e",))
        self.same(shown(book).facts, (((), (B, f(great, f(great, great)))),))
        self.same(is_shown(book, shown(book)), True)

    def test_is_shown(self):
        right = loose("", "a=c => b=f(b,a)")
        for other, answer in ((right, True), (right.with_facts(read_fact("a=c => b=f(b,c)")), True),
                              (right.with_facts(read_fact("a=b => a=b")), True),
                              (right.with_facts(read_fact("a=b")), False),
                              (right.without_facts(*right.facts), False), (right.with_facts(NEVER), False),
                              (loose("", "a=c & b=f(a,a) => b=f(b,a)"), False), (right.hide("a"), False),
                              (right.with_names(e=0), False), (right.with_names(z=0), False)):
            self.same(is_shown(RING, other), answer)
        self.same([is_shown(EMPTY, loose("", "a=b", "a=b => never", f=1)), is_shown(EMPTY, loose("", "a=b", f=1))],
                  [True, False])

    def test_missing_facts(self):
        for other in (loose("", "b=f(b,b)", a=0, c=0), loose("", "a=f(b,c)", "a=b & a=c => never"),
                      loose("", "a=c => a=b", f=2),
                      loose("", "a=b => b=f(b,b)", c=0), Book(names=parts.visible_places(RING))):
            fact = missing_fact(RING, other)
            if fact is None:
                self.assertTrue(tells(other, shown(RING)))
            else:
                self.same([follows(RING, fact), follows(other, fact)], [True, False])
        self.same(missing_fact(RING, loose("", "never", f=2, a=0, b=0, c=0)), None)
        self.same(missing_fact(EMPTY, Book(names=parts.visible_places(EMPTY))), NEVER)
        fact = read_fact("a=b => c=d")
        self.same(missing_fact(loose("", "a=b => c=d"), Book(names={"a": 0, "b": 0, "c": 0, "d": 0})), fact)

    def test_two_generators_at_once(self):
        one, other = shown_facts(OWN), shown_facts(OWN)
        found = [next(one), next(other), next(other), next(one)]
        self.same([found[0], found[3], *one], [found[1], found[2], *other])
        self.raises(InvalidBook, next, shown_facts(1))

    def test_great_books(self):
        book = Book(*parts.book_of_nodes(60))
        more = Book(*parts.book_of_nodes(60)).renamed_by({name: "y" + name[1:] for name in book.names}).hide("yaa")
        both = book | more | PAIRED
        result = shown(both)
        self.check(both, result, "yaa", "e")
        self.same([len(both.nodes), len(result), is_shown(both, result)], [127, 60, True])


class TestLeftOut(Shown):
    def test_in_every_order(self):
        for book in (GATES, RINGS, CHAIN, EMPTY, GATES.hide("d"), RING.hide("b"), OWN.hide("b")):
            results = []
            for names in itertools.permutations(book.hidden):
                result = book
                for k, name in enumerate(names):
                    further = left_out(result, name)
                    self.check(result, further, name)
                    result = further
                results.append(result)
            for result in results:
                self.assertTrue(are_alike(result, shown(book)) and is_shown(book, result))

    def test_some_names(self):
        for book in (GATES, RINGS, CHAIN):
            for many in range(len(book.hidden) + 1):
                for names in itertools.combinations(book.hidden, many):
                    result = left_out(book, *names, *names)
                    self.check(book, result, *names)
                    part = book.reveal(*book.hidden).hide(*names)
                    self.assertTrue(is_shown(part, result.reveal(*result.hidden)))
                    self.assertTrue(are_alike(shown(result), shown(book)))

    def test_told_books(self):
        self.same(told(left_out(GATES, "h")), ["e=g(d)", "a=c => b=e"])
        self.same(left_out(GATES, "h").text, "hidden e\ne=g(d)\na=c => b=e")
        self.assertIn(told(left_out(GATES, "e")), [["d=h", "a=c => b=g(d)"], ["d=h", "a=c => b=g(h)"]])
        self.same(left_out(GATES).text, GATES.text)
        spare = GATES.with_facts(read_fact("a=c & d=e => b=e"), read_fact("a=d => a=h"))
        self.same(left_out(spare).text, GATES.text)


class TestRandom(Shown):
    def test_random_books(self):
        rows = samples.generator_of(91)
        found = [0, 0]
        for _ in range(300):
            book = parts.random_book(rows)
            try:
                result = shown(book)
            except TooMany:
                continue
            found[0] += len(result)
            self.check(book, result, *book.hidden)
            self.assertTrue(is_shown(book, result) and are_alike(shown(result), result))
            worlds = [parts.random_world(rows, size, result.names) for size in (1, 2, 2, 2, 3, 3, 4)]
            for _ in range(3):
                pairs = [parts.random_pair(rows, 1, list(result.names)) for _ in range(rows.randint(0, 3))]
                closing = Closing(result, *pairs)
                if closing:
                    worlds.append(closing.world())
            self.check_worlds(book, result, worlds)
            for fact in result.facts:
                found[1] += 1
                less = result.without_facts(fact)
                missing = missing_fact(book, less)
                self.same([is_shown(book, less), follows(book, missing), follows(less, missing)], [False, True, False])

        self.assertGreater(min(found), 100)

    def test_the_same_visible_facts_follow(self):
        rows = samples.generator_of(95)
        found = {True: 0, False: 0}
        for _ in range(150):
            book = parts.random_book(rows)
            try:
                result = shown(book)
            except TooMany:
                continue
            names = list(result.names)
            for _ in range(15):
                conditions, conclusion = parts.random_fact(rows, rows.randint(1, 2), names)
                if result.facts and rows.random() < 0.5:
                    further, conclusion = rows.choice(result.facts)
                    conditions = (*conditions, *further)
                fact = parts.make_fact(conclusion, *conditions)
                answer = follows(book, fact)
                found[answer] += 1
                self.same(follows(result, fact), answer)
        self.assertGreater(min(found.values()), 300)

    def test_books_that_fit(self):
        rows = samples.generator_of(92)
        found = {True: 0, False: 0}
        for _ in range(200):
            book = parts.random_book(rows)
            other = parts.random_book(rows, ("a", "b", "c", "f", "g"), rows.randint(1, 4), 1).renamed(f="f", g="g")
            try:
                result = shown(book)
            except TooMany:
                continue
            self.assertTrue(are_apart(book, other) and are_apart(result, other))
            fit = not is_empty(book | other)
            found[fit] += 1
            self.same(not is_empty(result | other), fit)
        self.assertGreater(min(found.values()), 10)

    def test_leaving_out_names_in_any_order(self):
        rows = samples.generator_of(93)
        many = 0
        for _ in range(120):
            book = parts.random_book(rows, rows.choice(parts.SETS[3:]))
            if len(book.hidden) < 2:
                continue
            try:
                results = [shown(book)]
                for names in itertools.permutations(book.hidden):
                    result = book
                    for name in names:
                        result = left_out(result, name)
                    results.append(result)
            except TooMany:
                continue
            many += 1
            for result in results[1:]:
                self.assertTrue(are_alike(result, results[0]))
        self.assertGreater(many, 20)

    def test_all_small_worlds_of_random_books(self):
        rows = samples.generator_of(94)
        for names in (("a", "b", "e", "g"), ("a", "b", "c", "e", "k"), ("a", "g", "h", "k")):
            for _ in range(25):
                book = parts.random_book(rows, names)
                try:
                    result = shown(book)
                except TooMany:
                    continue
                self.check_worlds(book, result, [world for size in (1, 2) for world in worlds_of(size, result.names)])


if __name__ == "__main__":
    unittest.main()
