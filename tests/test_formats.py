"""[16.1] to [16.3]: texts of questions and pieces, tables of books."""

import inspect
import unittest

from shownpart.base.facts import read_fact
from shownpart.base.terms import levels, read_term, size_of
from shownpart.books.books import Book
from shownpart.code.pieces import Piece
from shownpart.errors import InvalidBook, InvalidCode, InvalidOperation, ParseError, TooMany
from shownpart.text import formats as module
from shownpart.text.formats import book_table, piece_text, question_text, read_piece, read_question, read_table
from tests import parts, samples
from tests.checks import Case
from tests.parts import EMPTY, GATES, NEVER, ODD, PAIRED, RING, f, g, loose, plain_signature
from tests.samples import A, B, C, E
from tests.test_pieces import BACK, T, X, Y, random_piece

INTERFACE = {
    "book_table": "(book)", "read_table": "(text)", "question_text": "(question)", "read_question": "(text)",
    "piece_text": "(piece)", "read_piece": "(text)",
}
QUESTIONS = {
    "fits": ("fits",), "follows a=b": ("follows", read_fact("a=b")), "follows never": ("follows", NEVER),
    "follows a=c & b=d => e=f(a)": ("follows", read_fact("a=c & b=d => e=f(a)")),
    "follows a=b => never": ("follows", read_fact("a=b => never")), "settled e": ("settled", E),
    "settled f(g(a),b)": ("settled", f(g(A), B)), "exchange p q": ("exchange", "p", "q"),
    "exchange fits fits": ("exchange", "fits", "fits"), "settled settled": ("settled", ("settled",)),
}
PIECES = {
    "ins\nouts": Piece(), "ins x,y\nouts x\nx := f(y)\nx := any\nf(x) = y\nf(x) <> y": Piece(
        ("set", "x", ("f", Y)), ("any", "x"), ("same", ("f", X), Y), ("differ", ("f", X), Y), ins=("x", "y"), outs=("x",)),
    "ins x,y\nouts x\nt := any\nf(t,x) = y\nx := t": BACK, "ins\nouts x": Piece(outs=("x",)), "ins x\nouts": Piece(ins=("x",)),
    "ins\nouts\nx := any(a)": Piece(("set", "x", ("any", A))), "ins\nouts\na = b": Piece(("same", A, B)),
    "ins\nouts\nb <> a": Piece(("differ", B, A)), "ins a\nouts a\na := a": Piece(("set", "a", A), ins=("a",), outs=("a",)),
    "ins ins\nouts outs\nins := outs": Piece(("set", "ins", ("outs",)), ins=("ins",), outs=("outs",)),
}


def changes(text):
    """Texts that are none: blanks and lines put in, left out and moved."""
    lines = text.split("\n")
    found = [text + "\n", "\n" + text, text + " ", " " + text, text + "\n\n", text.replace("\n", " \n"), text.upper()]
    if "\n" in text:
        found += [text.replace("\n", "\r\n"), text.replace("\n", "\n "), "\n".join(lines[::-1]), text.replace("\n", "\n\n")]
    if " " in text:
        found += [text.replace(" ", "  "), text.replace(" ", "\t")]
    return [other for other in found if other != text]


class TestInterface(Case):
    def test_names_and_parameters(self):
        for name, parameters in INTERFACE.items():
            action = getattr(module, name)
            self.same([plain_signature(action), action.__module__], [parameters, "shownpart.text.formats"])
            self.assertTrue(inspect.isfunction(action))


class TestQuestions(Case):
    def test_both_ways(self):
        for text, question in QUESTIONS.items():
            self.same([question_text(question), read_question(text)], [text, question])
        rows = samples.generator_of(171)
        for _ in range(100):
            for question in (("follows", samples.random_fact(rows)), ("settled", samples.random_term(rows))):
                self.same(read_question(question_text(question)), question)
            self.same(question_text(("follows", samples.random_fact(rows)))[:8], "follows ")

    def test_what_is_no_question(self):
        for value in [*ODD, ("swap", "p", "q"), ("", A), ("follow", NEVER), ("fits", 1), ("follows", A), ["fits"], ("exchange", "p"), "fits", ("settled", ("f", A, ("f",)))]:
            self.raises(InvalidOperation, question_text, value)

    def test_what_is_no_text(self):
        for text in [*ODD, "Fits", "fits a", "follows", "settled", "exchange", "exchange p", "exchange p q r", "exchange p Q",
                     "exchange  p q", "follows a", "follows b=a", "follows a=a", "settled a=b", "settled f(a, b)",
                     "follows a=b&c=d => a=c", "exchange p,q", "exchange p f(a)", "fit", "follow a=b", "follows a=b => a=c => a=d", "follows a=f & b=f(a) => never", "exchange p \u00e9",
                     "settled \u00e9", "exchange abcdefghi p", *[other for text in QUESTIONS for other in changes(text)]]:
            self.raises(ParseError, read_question, text)
        self.same(read_question("settled f"), ("settled", ("f",)))

    def test_deep_texts(self):
        text = "settled " + "s(" * 3000 + "a" + ")" * 3000
        self.assertTrue(question_text(read_question(text)) == text)


class TestPieces(Case):
    def test_both_ways(self):
        for text, piece in PIECES.items():
            self.same(piece_text(piece), text)
            self.assertTrue(read_piece(text) == piece)
        rows = samples.generator_of(172)
        for _ in range(200):
            piece = random_piece(rows)
            again = read_piece(piece_text(piece))
            self.assertTrue(again == piece and piece_text(again) == piece_text(piece))
            self.same([again.names, again.registers], [piece.names, piece.registers])

    def test_twenty_steps(self):
        text = "ins\nouts\n" + "\n".join(["x := any"] * 20)
        self.same([len(read_piece(text)), piece_text(read_piece(text)) == text], [20, True])
        self.raises(ParseError, read_piece, text + "\nx := any")

    def test_pieces_without_a_text(self):
        for piece in (Piece(("any", "any")), Piece(ins=("any",)), Piece(outs=("any",)), Piece(("set", "x", ("any",))),
                      Piece(("same", ("f", ("any",)), A)), Piece(("differ", A, ("any",)))):
            self.raises(InvalidOperation, piece_text, piece)
        for value in ODD:
            if not isinstance(value, Piece):
                self.raises(InvalidCode, piece_text, value)
        for text in ("ins any\nouts", "ins\nouts any", "ins\nouts\nany := x", "ins\nouts\nany := any", "ins\nouts\nany = x",
                     "ins\nouts\nx = f(any)", "ins\nouts\nx := f(any)", "ins\nouts\nx <> any"):
            self.raises(ParseError, read_piece, text)
        self.assertTrue(read_piece("ins\nouts\nx := any") == Piece(("any", "x")))

    def test_what_is_no_text(self):
        for text in [*ODD, "ins", "outs", "outs\nins", "ins x\nx := a", "ins x y\nouts", "ins y,x\nouts", "ins x,x\nouts",
                     "ins x,\nouts", "ins ,x\nouts", "ins X\nouts", "ins \nouts", "ins\nouts \n", "ins\nouts\n", "ins\nouts x,",
                     "insx\nouts", "ins\noutsx", "ins\nouts\nx:=a", "ins\nouts\nx := a b", "ins\nouts\nf(x) := a",
                     "ins\nouts\nx = ", "ins\nouts\n= x", "ins\nouts\nx == a", "ins\nouts\nx = a = b", "ins\nouts\nx := y := z",
                     "ins\nouts\nx != a", "ins\nouts\nx <> a <> b", "ins\nouts\nx := f(a, b)", "ins\nouts\nx := any ",
                     "ins\nouts\nx := f(f)", "ins\nouts\nx := abcdef", "ins x\nouts\nxin = a", "ins\nouts\nx",
                     "ins\nouts\n\nx := a", "ins\nouts\nx := x(a)", "ins\nouts\nx := any\n\n", "ins abcdef\nouts",
                     "ins\nouts\nx := \u00e9", *[other for text in PIECES for other in changes(text)]]:
            self.raises(ParseError, read_piece, text)

    def test_many_registers(self):
        names = [name for name, in parts.cells(101)]
        text = "ins " + ",".join(names[:100]) + "\nouts"
        self.same([len(read_piece(text).ins), piece_text(read_piece(text)) == text], [100, True])
        self.raises(ParseError, read_piece, "ins " + ",".join(names) + "\nouts")

    def test_deep_terms(self):
        text = "ins x\nouts\n" + "s(" * 2000 + "x" + ")" * 2000 + " = x"
        piece = read_piece(text)
        self.same([levels(piece.steps[0][1]), piece_text(piece) == text, T], [2001, True, ("t",)])


class TestTables(Case):
    TABLES = {
        "": Book(), "names a/0": Book(names={"a": 0}), "names a/0 e/0 f/1\nhidden e\n0 a\n1 e\n2 f 1\n0=2": Book.read(
            "hidden e\na=f(e)"), "never": Book(NEVER), "names f/2 h/0\nhidden f h": Book(names={"f": 2, "h": 0}, hidden=(
                "h", "f")),
        "names a/0 b/0 c/0 d/0 e/0 f/2\nhidden e\n0 a\n1 b\n2 c\n3 d\n4 e\n5 f 4 0\n6 f 4 2\n1=5\n3=6": PAIRED,
        "names a/0 b/0 c/0\n0 a\n1 b\n2 c\n0=1 => never\n0=1 & 1=2 => 0=2": loose("", "a=b & b=c => a=c", "a=b => never"),
        "names a/1 b/0\n0 a 1\n1 b\n0=1": loose("", "b=a(b)"),
        "names a/1 b/1 c/0\n0 a 1\n1 b 2\n2 c\n0=2": loose("", "a(b(c))=c"),
    }

    def test_both_ways(self):
        for text, book in self.TABLES.items():
            self.same(book_table(book), text)
            self.assertTrue(read_table(text) == book)
        for book in (PAIRED, RING, GATES, EMPTY):
            self.assertTrue(read_table(book_table(book)) == book)
        rows = samples.generator_of(173)
        for _ in range(200):
            book = parts.random_book(rows)
            again = read_table(book_table(book))
            self.assertTrue(again == book)
            self.same([again.names, again.hidden, again.facts, again.nodes], [book.names, book.hidden, book.facts, book.nodes])

    def test_each_node_once(self):
        tree = samples.full_tree(8)
        book = Book(((), tuple(sorted([tree, f(tree, A) if f(tree, A) < tree else B]))))
        table = book_table(book)
        self.same([len(book.nodes), len([line for line in table.split("\n") if line[0].isdigit() and "=" not in line])],
                  [len(book.nodes)] * 2)
        self.assertLess(len(table), len(book.text))
        self.assertTrue(read_table(table) == book)

    def test_wrong_books(self):
        for value in ODD:
            if not isinstance(value, Book):
                self.raises(InvalidBook, book_table, value)

    def test_what_is_no_table(self):
        right = "names a/0 e/0 f/1\nhidden e\n0 a\n1 e\n2 f 1\n0=2"
        self.assertTrue(read_table(right) == Book.read("hidden e\na=f(e)"))
        wrong = [("names ", "name "), ("a/0 e/0", "e/0 a/0"), ("e/0", "e/1"), ("f/1", "f/2"), ("f/1", "f/4"), ("f/1", "f/01"),
                 ("f/1", "f/1 f/1"), ("a/0 ", ""), (" f/1", " f/1 z"), ("f/1", "f"), ("f/1", "F/1"), ("a/0", "a/-0"),
                 ("hidden e", "hidden e e"), ("hidden e", "hidden"), ("hidden e\n", "hidden \n"), ("hidden e", "hidden z"),
                 ("hidden e", "hidden e,f"), ("\nhidden e", "\nhide e"), ("0 a\n1 e", "0 e\n1 a"), ("0 a\n1 e", "1 e\n0 a"),
                 ("0 a\n", ""), ("2 f 1", "2 f 2"), ("2 f 1", "2 f 3"), ("2 f 1", "2 f"), ("2 f 1", "2 f 1 0"),
                 ("2 f 1", "2 f 01"), ("2 f 1", "3 f 1"), ("2 f 1", "02 f 1"), ("2 f 1", "2 f e"), ("2 f 1", "2 f -1"),
                 ("2 f 1", "2 g 1"), ("2 f 1\n", "2 f 1\n2 f 1\n"), ("2 f 1\n", "2 f 1\n3 f 2\n"), ("2 f 1", "2"),
                 ("2 f 1\n", "2 f 1\n3 a\n"), ("0=2", "2=0"), ("0=2", "0=3"), ("0=2", "0=0"), ("0=2", "0=02"), ("0=2", "0=a"),
                 ("0=2", "0 = 2"), ("0=2", "0=2=1"), ("0=2", "0=2\n0=2"), ("0=2", "0=2 => 0=2 => 0=1"), ("0=2", "=>"),
                 ("0=2", "0=2 & => never"), ("0=2", "0=2 => "), ("0=2", "0=2\nnever"), ("0=2", "0="), ("0=2", "="),
                 ("0=2", "a=f(e)"), ("0=2", "0=2 & 0=1 => never"), ("0=2", "0=2 & 0=2 => never"), ("\n0=2", ""),
                 ("0=2", "0=2\n3 g"), ("2 f 1", "2 f 1" + "0" * 41), ("0=2", "0=" + "2" * 41), ("e/0", "e/" + "0" * 41),
                 ("0=2", "0=\u0662"), ("f/1", "f/\u0661"), ("2 f 1", "2 f \u00b9"), ("0=2", "0=2\nNever"), ("0=2", "0=1"),
                 ("0=2", "1=2"), ("e/0", "e/0 "), ("0=2", "0=2 never")]
        for old, new in wrong:
            self.assertIn(old, right)
            text = right.replace(old, new, 1)
            self.raises(ParseError, read_table, text)
        for text in [*[value for value in ODD if value != ""], "names", "hidden", "names \n", "hidden e", "0 a", "0=1",
                     "names a/0\n0 a", "names a/0\n0 a\n0=0", "never\nnever", "names a/0\nhidden a a", "\nnever", "a=b",
                     *[other for text in self.TABLES if text for other in changes(text)]]:
            self.raises(ParseError, read_table, text)
        self.assertTrue(read_table("names z/0\nnever") == Book(NEVER, names={"z": 0}))

    def test_rings_of_nodes(self):
        for text in ("names a/0 f/1\n0 a\n1 f 1\n0=1", "names a/0 f/1 g/1\n0 a\n1 f 2\n2 g 1\n0=1\n0=2",
                     "names f/2 g/1\n0 f 0 1\n1 g 0\n0=1"):
            self.raises(ParseError, read_table, text)

    def test_forty_and_forty_one_levels(self):
        for many in (40, 41, 70):
            book = Book(((), (A, samples.chain(many - 1))))
            self.same(max(levels(node) for node in book.nodes), many)
            if many == 40:
                self.assertTrue(read_table(book_table(book)) == book)
            else:
                self.raises(ParseError, read_table, book_table(book))

    def test_four_hundred_and_four_hundred_and_one_subterms(self):
        tree = samples.full_tree(7)
        self.same(size_of(tree), 127)
        tri = ("t", tree, tree, tree)
        self.same(size_of(tri), 382)
        for many, right in ((18, True), (19, False), (38, False)):
            term = samples.chain(many, tri)
            self.same(size_of(term), 382 + many)
            book = Book(((), (A, term)))
            if right:
                self.assertTrue(read_table(book_table(book)) == book)
            else:
                self.raises(ParseError, read_table, book_table(book))
        # Each line doubles what the one before tells.
        lines = ["names a/0 f/2", "0 a", *[f"{k} f {k - 1} {k - 1}" for k in range(1, 200)], "0=1"]
        self.raises(ParseError, read_table, "\n".join(lines))
        self.raises(ParseError, read_table, "\n".join(["names a/0 f/2", "0 a", *[f"{k} f {k + 1} {k + 1}" for k in range(
            1, 30)], "30 f 0 0", "0=1"]))

    def test_eighty_and_eighty_one_nodes(self):
        book = Book(*parts.book_of_nodes(80))
        self.assertTrue(read_table(book_table(book)) == book)
        one = Book(*parts.book_of_nodes(40)).renamed_by({name: "y" + name[1:] for name in book.names if name < "xbo"})
        great = book | one
        self.same(len(great.nodes), 120)
        self.same(self.raises(TooMany, read_table, book_table(great)).limit, 80)
        # What is no table, or has terms that are too great, is told ahead of that.
        self.raises(ParseError, read_table, book_table(great) + " ")
        self.raises(ParseError, read_table, book_table(great | Book(((), (A, samples.chain(40))))))
        self.same(self.raises(TooMany, read_table, book_table(great | Book(((), (A, samples.chain(39)))))).limit, 80)

    def test_tables_of_returned_books(self):
        deep = read_term("s(" * 500 + "a" + ")" * 500)
        piece = Piece(("same", deep, C))
        table = book_table(piece.book())
        # A line for the names, 502 nodes, of which c is the second one, and one fact.
        self.same([len(table.split("\n")), table.split("\n")[1:4], table.split("\n")[-1]],
                  [504, ["0 a", "1 c", "2 s 0"], "1=501"])
        self.raises(ParseError, read_table, table)


if __name__ == "__main__":
    unittest.main()
