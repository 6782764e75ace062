"""[0.10], [0.13] and [4.1]: books."""

import unittest

from shownpart.base.facts import fact_text, make_fact, read_fact
from shownpart.base.terms import read_term
from shownpart.base.worlds import World
from shownpart.books.books import Book, are_apart
from shownpart.errors import InvalidBook, InvalidFact, InvalidName, InvalidOperation, ParseError, TooMany, UnknownName
from tests import parts, samples
from tests.checks import Case
from tests.parts import GATES, NEVER, ODD, PAIRED, RING, book_of_nodes, f, g, plain_signature
from tests.samples import A, B, C, D, E

AB, AC, BC = (A, B), (A, C), (B, C)
METHODS = {
    "__len__": "(self)", "__contains__": "(self, value)", "__eq__": "(self, other)", "__str__": "(self)",
    "__or__": "(self, other)", "with_facts": "(self, *facts)", "without_facts": "(self, *facts)",
    "with_names": "(self, **names)", "hide": "(self, *names)", "reveal": "(self, *names)",
    "renamed": "(self, **names)", "renamed_by": "(self, names)", "visible_part": "(self)",
}
# 60 nodes each, with no name in common.
LONG, OTHER = Book(*book_of_nodes(60)), Book(*book_of_nodes(60)).renamed_by(
    {name: "y" + name[1:] for name in Book(*book_of_nodes(60)).names})
JOINED = LONG | OTHER


def told(book):
    return (book.names, book.hidden, book.visible, book.facts, book.nodes, book.text, str(book), len(book))


class TestInterface(Case):
    def test_names_and_parameters(self):
        self.same(plain_signature(Book), "(*facts, hidden=(), names=None)")
        self.same(plain_signature(Book.of), "(facts, hidden, names)")
        self.same(plain_signature(Book.read), "(text)")
        self.same(plain_signature(are_apart), "(first, second)")
        self.same([Book.MAX_NODES, PAIRED.MAX_NODES], [80, 80])
        for name, parameters in METHODS.items():
            self.same(plain_signature(vars(Book)[name]), parameters)
        for name in ("names", "hidden", "visible", "facts", "nodes", "text"):
            self.assertIsInstance(vars(Book)[name], property)
        for name in ("of", "read"):
            self.assertIsInstance(vars(Book)[name], classmethod)


class TestMade(Case):
    def test_properties(self):
        one, other = read_fact("b=c => a=f(e)"), read_fact("a=b")
        for book in (Book(one, other, one, hidden=("h", "e", "h"), names={"h": 1, "a": 0, "z": 3}),
                     Book.of((other, one), ("e", "h"), {"z": 3, "h": 1})):
            self.same(told(book), (
                {"a": 0, "b": 0, "c": 0, "e": 0, "f": 1, "h": 1, "z": 3}, ("e", "h"), ("a", "b", "c", "f", "z"),
                (other, one), (A, B, C, E, f(E)), "hidden e,h\nnames h/1,z/3\na=b\nb=c => a=f(e)",
                "book of 2 facts, 2 hidden", 2))
        self.same(told(Book()), ({}, (), (), (), (), "", "book of 0 facts, 0 hidden", 0))
        self.same(told(Book(NEVER)), ({}, (), (), (NEVER,), (), "never", "book of 1 facts, 0 hidden", 1))
        self.same([bool(Book()), bool(Book(names={"a": 0})), bool(Book(NEVER))], [False, False, True])
        self.same(Book.of((), (), None).text, "")

    def test_order_of_facts(self):
        texts = ["never", "a=b", "a=c", "a=f(a)", "b=c", "a=b => never", "a=b => a=b", "a=b => b=c",
                 "a=b & a=c => never",
                 "a=b & b=c => a=c", "a=c => a=b"]
        facts = [read_fact(text) for text in texts]
        self.same(Book(*facts[::-1]).facts, tuple(facts))
        self.same(Book(*facts[5:], *facts[:7]).text, "\n".join(texts))

    def test_what_is_passed_or_returned_is_copied(self):
        names = {"g": 1}
        book = Book(((), AB), names=names)
        names["h"] = 0
        book.names["z"] = 0
        book.names.clear()
        self.same(book.text, "names g/1\na=b")

    def test_wrong_values(self):
        fact = ((), AB)
        for value in ODD:
            self.raises(InvalidFact, Book, value, hidden=1, names=1)
            self.raises(InvalidFact, Book, fact, value, ((), (A, f(A))), ((), (A, f(A, A))))
            if value not in ((), ("a", "b")):
                self.raises(InvalidFact, Book.of, value, value, value)
                self.raises(InvalidName, Book, fact, hidden=value)
                self.raises(InvalidName, Book.of, (fact,), value, value)
            self.raises(InvalidName, Book, fact, hidden=("a", value))
            self.raises(InvalidName, Book, fact, hidden=("z", value), names={"a": 1})
            if value not in ({}, {"a": 1}, None):
                self.raises(InvalidName, Book, fact, names=value)
                self.raises(InvalidName, Book, fact, ((), (("b", A), C)), names=value)
            if value not in (0, 1, 3) or isinstance(value, bool):
                self.raises(InvalidName, Book, fact, hidden=("z",), names={"c": value})
            if isinstance(value, str):
                self.raises(InvalidName, Book, fact, names={value: 0})
        for value in ([fact], [], {}, fact):
            self.raises(InvalidFact, Book.of, value, (), {})
        for value in (["a"], "a", {"a": 0}):
            self.raises(InvalidName, Book, fact, hidden=value)

    def test_unlike_places_and_hidden_names_that_are_none(self):
        self.raises(InvalidBook, Book, ((), (A, f(A))), ((), (A, f(A, A))))
        self.raises(InvalidBook, Book, ((), (A, f(A))), names={"f": 2})
        self.raises(InvalidBook, Book, ((), (A, f(A))), names={"a": 3})
        self.raises(InvalidBook, Book, ((), AB), hidden=("a", "c"))
        self.raises(InvalidBook, Book, hidden=("a",))
        self.raises(InvalidBook, Book, *book_of_nodes(90), hidden=("a",))
        self.raises(InvalidBook, Book, *book_of_nodes(90), names={"xaa": 1})

    def test_eighty_and_eighty_one_nodes(self):
        self.same([len(Book(*book_of_nodes(many)).nodes) for many in (2, 79, 80)], [2, 79, 80])
        for many in (81, 90):
            self.same(self.raises(TooMany, Book, *book_of_nodes(many)).limit, 80)
            self.same(self.raises(TooMany, Book.of, tuple(book_of_nodes(many)), (), {}).limit, 80)
        chain = samples.chain(39)
        self.same(len(Book(((), (chain, ("t", samples.chain(38))))).nodes), 41)
        self.same(self.raises(TooMany, Book, make_fact((samples.chain(40), samples.chain(39, B)))).limit, 80)
        many = {name[0]: 0 for name in parts.cells(200)}
        self.same(len(Book(*book_of_nodes(80), names=many).names), 200)


class TestTexts(Case):
    def test_both_ways(self):
        for text in ("", "never", "a=b", "names a/0", "names a/0,b/3,f/2", "hidden e\nnames e/0", "hidden e\na=e",
                     "hidden e,h\nnames e/0,h/3,k/0\na=b => never\na=b & a=c => b=f(a)", "a=b\na=b => never",
                     "hidden hidden\nnames hidden/0,names/2", "hidden=names", "hidden(a)=names(b,c)", "names=never",
                     "hidden a,b\na=b", "never\na=b", "hidden f\na=f(b,c)\nf(a,a)=never"):
            self.same(Book.read(text).text, text)
        self.same(told(Book.read("hidden e\nb=f(e,a)\nd=f(e,c)")), told(PAIRED))

    def test_no_texts(self):
        for text in ("\n", "a=b\n", "\na=b", "a=b\n\nb=c", "b=c\na=b", "a=b\na=b", "a=b => never\na=b", "a=a", "b=a",
                     "names", "names ", "hidden", "hidden ", "hidden \na=b", "names \na=b", "hidden e", "hidden e\na=b",
                     "names b/0,a/0", "names a/0,a/0", "names a/4", "names a/00", "names a/-1", "names a", "names a/",
                     "names /0", "names A/0", "names a/0,", "names a/0 ", "names  a/0", "names a/0/1", "names a/0, b/0",
                     "names a/0\na=b", "names f/1\na=f(a,a)", "hidden e,e\na=e", "hidden h,e\nnames e/0,h/0",
                     "hidden e, h\ne=h", "names e/0\nhidden e", "a=b\nhidden a", "a=b\nnames c/0", "hidden e\na=e ",
                     "Hidden e\na=e", "a=b\r\nb=c", "a=f(b)\nb=f(a,a)", "a=b & b=c", "a=b\nnever", " ", "e",
                     "hidden e\nhidden h\ne=h", "names a/0\nnames b/0", "a=b\x0bb=c", "a=b\u2028b=c", "names a/\u0663"):
            self.raises(ParseError, Book.read, text)
        for value in ODD:
            if value != "":
                self.raises(ParseError, Book.read, value)

    def test_texts_with_one_sign_changed(self):
        text = "hidden e\nnames g/1\na=e\nb=c => never"
        for k in range(len(text) + 1):
            for sign in "\n ,/=abeg1>":
                for other in (text[:k] + sign + text[k:], text[:k] + sign + text[k + 1:], text[:k] + text[k + 1:]):
                    try:
                        book = Book.read(other)
                    except ParseError:
                        continue
                    self.assertEqual(book.text, other)
                    self.assertTrue(Book(*book.facts, hidden=book.hidden, names=book.names) == book)

    def test_too_many_nodes(self):
        text = "\n".join(fact_text(fact) for fact in book_of_nodes(80))
        self.same(len(Book.read(text).nodes), 80)
        self.same(self.raises(TooMany, Book.read, JOINED.text).limit, 80)
        self.raises(ParseError, Book.read, JOINED.text + "\n")
        deep = "f(" * 5000 + "a" + ")" * 5000
        self.same(self.raises(TooMany, Book.read, f"a={deep}").limit, 80)
        self.raises(ParseError, Book.read, f"{deep}=a")


class TestAsAWhole(Case):
    def test_equality(self):
        for other in (Book(*PAIRED.facts[::-1], hidden=("e", "e")), Book.read(PAIRED.text), PAIRED.hide("e"),
                      PAIRED.with_facts(*PAIRED.facts), PAIRED.reveal("e").hide("e")):
            self.assertTrue(PAIRED == other and not PAIRED != other)
        for other in (RING, PAIRED.reveal("e"), PAIRED.with_names(g=1), PAIRED.hide("a"), PAIRED.renamed(e="h"), Book(),
                      PAIRED.without_facts(PAIRED.facts[0]), PAIRED.text, World(1)):
            self.assertTrue(PAIRED != other and not PAIRED == other)
        self.assertFalse(Book(names={"f": 1}) == Book(names={"f": 2}))

    def test_facts_in_it(self):
        for fact in (*PAIRED.facts, *RING.facts, *GATES.facts):
            self.same([fact in book for book in (PAIRED, RING, GATES)],
                      [fact in book.facts for book in (PAIRED, RING, GATES)])
        for value in [*ODD, NEVER, ((), AB), ((), (f(E, A), B)), PAIRED.facts, list(PAIRED.facts[0])]:
            self.same(value in PAIRED, False)
        self.same(NEVER in Book(NEVER), True)
        self.raises(TypeError, lambda: iter(PAIRED))
        self.raises(TypeError, lambda: list(Book()))


class TestOthers(Case):
    def setUp(self):
        self.books = (PAIRED, RING, GATES, JOINED)
        self.before = [told(book) for book in self.books]

    def tearDown(self):
        self.same([told(book) for book in self.books], self.before)

    def test_with_facts(self):
        self.same(PAIRED.with_facts(((), (A, g(E))), PAIRED.facts[0]).text, "hidden e\na=g(e)\nb=f(e,a)\nd=f(e,c)")
        self.same(told(PAIRED.with_facts()), told(PAIRED))
        self.same(Book(names={"a": 0, "z": 1}).with_facts(((), AB)).text, "names z/1\na=b")
        for value in ODD:
            self.raises(InvalidFact, PAIRED.with_facts, value)
            self.raises(InvalidFact, PAIRED.with_facts, ((), (A, ("f",))), value)
            self.raises(InvalidFact, JOINED.with_facts, value)
        self.raises(InvalidBook, PAIRED.with_facts, ((), (A, f(A))))
        self.raises(InvalidBook, PAIRED.with_facts, ((), (A, g(A))), ((), (A, g(A, A))))
        self.raises(InvalidBook, JOINED.with_facts, ((), (A, ("xaa", A))))
        self.same(self.raises(TooMany, JOINED.with_facts).limit, 80)
        self.same(self.raises(TooMany, JOINED.with_facts, JOINED.facts[0]).limit, 80)
        full = Book(*book_of_nodes(80))
        self.same(len(full.with_facts(((), (full.nodes[0], full.nodes[5]))).nodes), 80)
        self.same(self.raises(TooMany, full.with_facts, ((), (A, full.nodes[0]))).limit, 80)

    def test_without_facts(self):
        fact, other = PAIRED.facts
        self.same(PAIRED.without_facts(fact, fact).text, "hidden e\nnames a/0,b/0\nd=f(e,c)")
        self.same(PAIRED.without_facts(other, fact).text, "hidden e\nnames a/0,b/0,c/0,d/0,e/0,f/2")
        self.same(told(PAIRED.without_facts()), told(PAIRED))
        self.same(len(JOINED.without_facts(JOINED.facts[0]).nodes), 118)
        for value in [*ODD, NEVER, ((), AB), RING.facts[1]]:
            self.raises(InvalidFact, PAIRED.without_facts, value)
            self.raises(InvalidFact, PAIRED.without_facts, fact, value, other)

    def test_with_names(self):
        self.same(PAIRED.with_names(z=3, e=0, f=2).text, "hidden e\nnames z/3\nb=f(e,a)\nd=f(e,c)")
        self.same(told(PAIRED.with_names()), told(PAIRED))
        self.same(len(JOINED.with_names(z=1).nodes), 120)
        for value in ODD:
            if value not in (0, 1, 3) or isinstance(value, bool):
                self.raises(InvalidName, PAIRED.with_names, a=1, z=value)
            if isinstance(value, str):
                self.raises(InvalidName, PAIRED.with_names, **{value: 0, "a": 1})
        for value in (4, -1):
            self.raises(InvalidName, PAIRED.with_names, z=value)
        self.raises(InvalidBook, PAIRED.with_names, z=1, a=1)
        self.raises(InvalidBook, PAIRED.with_names, e=1)

    def test_hide_and_reveal(self):
        self.same([PAIRED.hide("a", "e", "a").hidden, PAIRED.hide("f").hidden, PAIRED.hide().hidden],
                  [("a", "e"), ("e", "f"), ("e",)])
        self.same([PAIRED.reveal("e").hidden, PAIRED.reveal("a", "e").hidden, PAIRED.reveal().hidden,
                   GATES.reveal("h").hidden],
                  [(), (), ("e",), ("e",)])
        self.same([PAIRED.hide("a").facts, PAIRED.hide("a").visible], [PAIRED.facts, ("b", "c", "d", "f")])
        self.same(len(JOINED.hide("xaa").reveal("xaa").hide("yaa").nodes), 120)
        for value in [*ODD, "z", "g"]:
            for action in (PAIRED.hide, PAIRED.reveal):
                self.assertIs(self.raises(UnknownName, action, value).name, value)
                self.assertIs(self.raises(UnknownName, action, "a", value, "h").name, value)

    def test_renamed(self):
        names = {"e": "a", "a": "e", "f": "z", "q": "a"}
        for book in (PAIRED.renamed(**names), PAIRED.renamed_by(names)):
            self.same(book.text, "hidden a\nb=z(a,e)\nd=z(a,c)")
        self.same(PAIRED.renamed(a="d", d="a").text, "hidden e\na=f(e,c)\nb=f(e,d)")
        self.same(told(PAIRED.renamed()), told(PAIRED))
        self.same(Book.read("hidden h\nnames h/1\na=c => b=d").renamed(a="z", h="g").text,
                  "hidden g\nnames g/1\nc=z => b=d")
        self.same(Book(names={"self": 1, "names": 0}).renamed_by({"self": "names", "names": "self"}).names,
                  {"names": 1, "self": 0})
        for value in ODD:
            if value != {}:
                self.raises(InvalidName, PAIRED.renamed_by, value)
            self.raises(InvalidName, PAIRED.renamed, a="b", z=value)
            self.raises(InvalidName, PAIRED.renamed_by, {"a": "b", "z": value})
            if isinstance(value, str):
                self.raises(InvalidName, PAIRED.renamed, **{"a": "b", value: "z"})
        for names in ({"a": "b"}, {"e": "f"}, {"a": "z", "b": "z"}, {"f": "c"}):
            self.raises(InvalidOperation, PAIRED.renamed_by, names)
            self.raises(InvalidOperation, PAIRED.renamed, **names)
        self.raises(InvalidOperation, Book(names={"a": 0, "b": 1}).renamed, a="b")

    def test_apart(self):
        for first, second, apart in ((PAIRED, RING, False), (PAIRED, RING.renamed(e="h"), True), (PAIRED, Book(), True),
                                     (PAIRED, PAIRED.reveal("e"), False), (PAIRED, Book(names={"f": 1}), False),
                                     (PAIRED, Book(names={"f": 2, "z": 1}), True),
                                     (PAIRED, Book(names={"e": 0}), False),
                                     (Book(names={"g": 0}), Book(names={"g": 1}, hidden=("g",)), False),
                                     (Book(names={"g": 0}, hidden=("g",)), Book(names={"h": 1}, hidden=("h",)), True)):
            self.same([are_apart(first, second), are_apart(second, first)], [apart, apart])
        for value in ODD:
            if not isinstance(value, Book):
                self.raises(InvalidBook, are_apart, value, PAIRED)
                self.raises(InvalidBook, are_apart, PAIRED, value)
                self.raises(InvalidBook, are_apart, value, value)

    def test_joined(self):
        both = PAIRED | RING.renamed(e="h").with_names(z=1)
        self.same(both.text, "hidden e,h\nnames z/1\nb=f(e,a)\nb=f(h,a)\nd=f(e,c)\nf(h,c)=h")
        self.same([told(PAIRED | Book()), told(Book() | PAIRED)], [told(PAIRED), told(PAIRED)])
        self.same([len(JOINED.nodes), len(JOINED.names), len(JOINED)], [120, 120, 60])
        self.same((Book(((), AB)) | Book(((), AB), ((), BC))).text, "a=b\nb=c")
        for value in [*ODD, PAIRED, PAIRED.reveal("e"), Book(names={"f": 1})]:
            if value != Book():
                self.raises(InvalidOperation, lambda: PAIRED | value)

    def test_visible_part(self):
        self.same(PAIRED.visible_part().text, "names a/0,b/0,c/0,d/0,f/2")
        self.same(GATES.with_facts(read_fact("a=g(b)"), read_fact("a=b => e=h")).visible_part().text,
                  "names c/0,d/0\na=g(b)")
        self.same(told(JOINED.visible_part()), told(JOINED))
        self.same(PAIRED.hide("f").reveal("e").visible_part().text, "names a/0,b/0,c/0,d/0,e/0")


class TestAgainstPlainDefinitions(Case):
    def test_random_books(self):
        rows = samples.generator_of(31)
        for _ in range(300):
            facts = [samples.random_fact(rows) for _ in range(rows.randint(0, 5))]
            terms = [term for fact in facts for pair in [*fact[0], fact[1]] if pair is not None for term in pair]
            names = samples.plain_places(terms)
            hidden = tuple(rows.choices(list(names), k=rows.randint(0, 2))) if names else ()
            book = Book(*facts, hidden=hidden)
            self.same(book.names, names)
            self.same(book.hidden, tuple(sorted(set(hidden))))
            ordered = sorted(set(facts), key=lambda fact: (fact[0], fact[1] is not None, fact[1] or ()))
            self.same(book.facts, tuple(ordered))
            self.same(book.nodes, tuple(sorted(parts.plain_nodes(terms))))
            lines = ["hidden " + ",".join(sorted(set(hidden)))] if hidden else []
            self.same(book.text, "\n".join([*lines, *[samples.plain_fact_text(fact) for fact in ordered]]))
            self.assertTrue(Book.read(book.text) == book)
            shown = [fact for fact in ordered if not set(parts.Book(fact).names) & set(hidden)]
            self.same(book.visible_part().facts, tuple(shown))

    def test_deep_terms(self):
        deep = samples.chain(39)
        fact = make_fact((deep, ("t", samples.chain(38))), (("t", A), samples.chain(20)))
        book = Book(fact, hidden=("s",))
        self.same([book.facts, len(book.nodes), fact in book, Book.read(book.text) == book],
                  [(fact,), 42, True, True])
        self.same(book.renamed(s="z").renamed(z="s").text, book.text)
        wide = samples.full_tree(8)
        self.same(len(Book(((), (A, wide)), ((), (B, wide))).nodes), 9)
        self.same(read_term("s(" * 39 + "a" + ")" * 39) in book.nodes, True)
        self.same([D in book.nodes, len(Book(names={"d": 0}).nodes)], [False, 0])


if __name__ == "__main__":
    unittest.main()
