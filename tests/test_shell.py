"""[16.1], [16.3] and the section "Stage 16: texts and a shell": a board that is worked on by lines."""

import unittest

from shownpart.base.facts import read_fact
from shownpart.board.board import Board
from shownpart.books.books import Book
from shownpart.closing.follows import are_alike, follow_paper
from shownpart.errors import (
    InvalidCommand, InvalidEdit, InvalidFact, InvalidOperation, NothingToUndo, TooMany, UnknownName,
)
from shownpart.text import shell as module
from shownpart.text.formats import book_table
from shownpart.text.shell import Shell
from tests.checks import Case
from tests.parts import ODD, PAIRED, plain_signature
from tests.test_board import state_of

METHODS = {"__init__": "(self, board=None)", "__call__": "(self, line)", "run": "(self, *lines)"}
MADE = ("put p a/0 b/0 c/0 d/0 e/0 f/2", "tell p b=f(e,a)", "tell p d=f(e,c)", "hide p e", "put q a/0 c/0", "tell q a=c")


def shell_of_two():
    """A shell with the parts of the other tests, made by lines."""
    shell = Shell()
    shell.run(*MADE)
    return shell


class Shells(Case):
    def unchanged(self, kind, shell, line):
        """Check that a line raises an error and changes nothing."""
        before = state_of(shell.board)
        error = self.raises(kind, shell, line)
        self.same(state_of(shell.board), before)
        return error


class TestInterface(Shells):
    def test_names_and_parameters(self):
        for name, parameters in METHODS.items():
            self.same(plain_signature(vars(Shell)[name]), parameters)
        self.assertIsInstance(vars(Shell)["board"], property)
        self.same(module.Shell.__module__, "shownpart.text.shell")

    def test_boards(self):
        board = Board(kept=3)
        shell = Shell(board)
        self.assertIs(shell.board, board)
        shell("put p a/0")
        self.same([board.names, board["p"].names], [("p",), {"a": 0}])
        self.same([Shell(None).board.names, Shell().board.kept, Shell().board == Shell().board], [(), 100, False])
        for value in ODD:
            if value is not None and not isinstance(value, Board):
                self.raises(InvalidOperation, Shell, value)
        # A shell is no board.
        self.raises(InvalidOperation, Shell, shell)


class TestCommands(Shells):
    def test_the_parts_are_those_of_the_edits(self):
        shell = shell_of_two()
        self.assertTrue(shell.board["p"] == PAIRED and shell.board["q"] == Book.read("a=c"))
        self.same([shell.board.steps, len(shell.board)], [6, 2])

    def test_edits(self):
        shell = Shell()
        for line, text in (("put p", ""), ("put p a/0 f/3", "names a/0,f/3"), ("tell p a=f(a,a,a)", "a=f(a,a,a)"),
                           ("tell p a=f(a,a,a) => never", "a=f(a,a,a)\na=f(a,a,a) => never"),
                           ("untell p a=f(a,a,a)", "a=f(a,a,a) => never"), ("hide p f", "hidden f\na=f(a,a,a) => never"),
                           ("reveal p f", "a=f(a,a,a) => never"), ("tell p never", "never\na=f(a,a,a) => never")):
            self.same([shell(line), shell.board["p"].text], ["", text])
        self.same([shell("drop p"), shell.board.names, shell.board.steps], ["", (), 9])

    def test_news(self):
        shell = shell_of_two()
        self.same(shell.run("watch follows b=d", "watch fits", "watch exchange p q", "watch settled e", "watch follows a=c"),
                  ("yes\n", "yes\n", "no\n", "no\n", "yes\n"))
        self.same(shell("untell q a=c"), "follows b=d: no\nfollows a=c: no\n")
        self.same(shell.run("undo", "redo", "undo"), ("follows b=d: yes\nfollows a=c: yes\n",
                                                      "follows b=d: no\nfollows a=c: no\n",
                                                      "follows b=d: yes\nfollows a=c: yes\n"))
        self.same(shell("drop p"), "follows b=d: open\nexchange p q: open\nsettled e: open\n")
        self.same(shell("tell q never"), "fits: no\n")
        self.same(shell("undo 2"), "follows b=d: yes\nfits: yes\nexchange p q: no\nsettled e: no\n")
        self.same(shell("redo 2"), "follows b=d: open\nfits: no\nexchange p q: open\nsettled e: open\n")
        self.same(shell.run("undo 0", "redo 0", "undo 8"), ("", "", "fits: yes\nfollows a=c: open\n"))
        self.same([shell.board.names, shell.board.steps, shell("redo 8")], [
            (), 0, "fits: no\nfollows a=c: yes\n"])

    def test_questions(self):
        shell = shell_of_two()
        for text, told in (("fits", "yes"), ("follows b=d", "yes"), ("follows a=b", "no"), ("follows a=z", "open"),
                           ("follows a=b & b=c => d=f(e,c)", "yes"), ("settled e", "no"), ("settled f(e,a)", "yes"),
                           ("settled z", "open"), ("exchange p p", "yes"), ("exchange p q", "no"), ("exchange p z", "open")):
            self.same([shell("ask " + text), shell.board.answers()], [told + "\n", ()])
            self.same([shell("watch " + text), len(shell.board.answers()), shell("unwatch " + text)], [told + "\n", 1, ""])
        self.same([shell.board.answers(), shell.board.steps], [(), 6])
        self.unchanged(InvalidOperation, shell, "unwatch fits")

    def test_prints(self):
        shell = shell_of_two()
        self.same(shell.run("print p", "print q", "table q", "table p"), (
            "hidden e\nb=f(e,a)\nd=f(e,c)\n", "a=c\n", "names a/0 c/0\n0 a\n1 c\n0=1\n", book_table(PAIRED) + "\n"))
        # The answer with an empty text is empty.
        self.same(shell.run("put r", "print r", "table r"), ("",) * 3)
        self.same(shell.run("put r z/0", "print r", "table r"), ("", "names z/0\n", "names z/0\n"))

    def test_summaries(self):
        shell = shell_of_two()
        text = shell("summary b d")
        self.assertTrue(are_alike(Book.read(text[:-1]), Book.read("b=d")))
        self.same([text[-1], text[:-1] == shell.board.summary("b", "d").text, shell("summary b d b") == text],
                  ["\n", True, True])
        self.same([Shell()("summary"), shell.board.steps], ["", 6])
        shell("tell p never")
        self.same(shell.run("summary", "summary a"), ("never\n", "names a/0\nnever\n"))

    def test_why(self):
        shell = shell_of_two()
        whole = shell.board.whole()
        for text in ("b=d", "a=c", "a=b => never", "a=b", "never", "a=b => a=b", "f(e,a)=f(e,c)"):
            kind, told = follow_paper(whole, read_fact(text))
            answer = shell("why " + text)
            self.same(answer, f"steps {len(told)}\n" if kind == "steps" else f"world {told.size}\n")
        self.same([shell("why a=c"), shell("why a=b => a=b")], ["steps 1\n", "steps 1\n"])
        self.same(Shell()("why never"), "world 1\n")
        shell("tell q never")
        self.same(shell("why never"), "steps 1\n")


class TestErrors(Shells):
    def test_what_is_no_command(self):
        shell = shell_of_two()
        right = ["put r a/0", "drop p", "tell p a=b", "untell q a=c", "hide p b", "reveal p e", "undo", "undo 1", "redo",
                 "redo 0", "watch fits", "unwatch fits", "ask fits", "print p", "table p", "summary a b", "summary", "why a=b"]
        wrong = [other for line in right for other in (
            line + " ", " " + line, line.replace(" ", "  "), line.upper(), line + "\n", "\n" + line, line + "\t", line + " A",
            line.replace(" ", "\t"), line.replace("p", "P")) if other != line and other not in right]
        for line in [*ODD, *wrong, "put", "put P", "put p a", "put p a/4", "put p a/", "put p a/-1", "put p a/00", "put p /0",
                     "put p a/0 a/0", "put p a/0 a/1", "put p a/0  b/0", "put p a/0,b/0", "put p A/0", "put p abcdefghi/0",
                     "put p a/0 b", "put p a/1000000000000000000000000000000000000000000", "drop", "drop p q", "drop 1", "tell p",
                     "tell", "tell a=b", "tell p a", "tell p b=a", "tell p a=a", "tell p a=b &c=d => a=c", "tell p  a=b",
                     "tell p a=b =>  never", "tell P a=b", "untell p", "untell p a", "hide p", "hide p a b", "hide p 1", "hide",
                     "reveal p", "reveal p E", "undo x", "undo 01", "undo 00", "undo -1", "undo 1 1", "undo +1", "undo 1.0",
                     "undo " + "1" * 41, "redo " + "1" * 41, "undo \u0661", "undo \u00b2", "watch", "watch fit", "ask",
                     "ask fits p", "unwatch", "ask follows", "ask exchange p", "watch settled a=b", "print", "print p q",
                     "print 1", "table", "table p q", "summary a,b", "summary A", "summary a/0", "why", "why a", "why b=a",
                     "why a=b c=d", "help", "do", "fits", "redo 1 ", "print \u00e9", "Undo", "undo1", "keep 1", "trial"]:
            self.unchanged(InvalidCommand, shell, line)

    def test_numbers_with_forty_digits(self):
        shell = shell_of_two()
        for text in ("1" * 40, "9" * 40, "7"):
            self.same(self.unchanged(NothingToUndo, shell, "undo " + text).many, int(text))
            self.same(self.unchanged(NothingToUndo, shell, "redo " + text).many, int(text))
        self.same(self.unchanged(NothingToUndo, shell, "redo").many, 1)

    def test_errors_of_the_functions_that_are_called(self):
        shell = shell_of_two()
        for line, kind in (("drop r", InvalidEdit), ("tell r a=b", InvalidEdit), ("tell q a=c", InvalidEdit),
                           ("tell q a=z", InvalidEdit), ("untell q c=d", InvalidEdit), ("hide p e", InvalidEdit),
                           ("hide p a", InvalidEdit), ("reveal p a", InvalidEdit), ("put q e/0", InvalidEdit),
                           ("put r f/1", InvalidEdit), ("unwatch fits", InvalidOperation), ("why a=z", InvalidFact),
                           ("why a=f(b)", InvalidFact), ("tell p a=f & b=f(a) => never", InvalidCommand)):
            self.unchanged(kind, shell, line)
        for line, name in (("print r", "r"), ("table r", "r"), ("summary a z e", "z"), ("summary e", "e"),
                           ("summary p", "p")):
            self.same(self.unchanged(UnknownName, shell, line).name, name)
        self.same(self.unchanged(TooMany, shell, "summary").limit, 6)
        for k in range(20):
            shell(f"watch settled x{'abcdefghijklmnopqrst'[k]}")
        self.same(self.unchanged(TooMany, shell, "watch fits").limit, 20)
        self.same(len(shell.board.answers()), 20)
        for name in "abcdefghij":
            shell(f"put {name}")
        self.same(len(shell.board), 12)
        self.unchanged(InvalidEdit, shell, "put k")

    def test_run(self):
        shell = Shell()
        self.same([shell.run(), shell.run("put p a/0 b/0 f/1"), shell.run("ask fits", "ask follows a=b")],
                  [(), ("",), ("yes\n", "no\n")])
        for line, kind in (("tell p a=z", InvalidEdit), ("nothing", InvalidCommand), ("print z", UnknownName),
                           (None, InvalidCommand), ("undo 9", NothingToUndo)):
            steps = shell.board.steps
            self.raises(kind, shell.run, "tell p a=b", "hide p f", line, "drop p")
            # What stands ahead of an error stays done.
            self.same([shell.board.steps, shell("print p")], [steps + 2, "hidden f\nnames f/1\na=b\n"])
            shell("undo 2")
            self.same([shell.board.steps, shell("print p")], [steps, "names a/0,b/0,f/1\n"])

    def test_two_shells_for_one_board(self):
        board = Board()
        one, other = Shell(board), Shell(board)
        one("put p a/0 b/0")
        self.same([other("print p"), other("watch follows a=b"), one("tell p a=b"), other("undo")],
                  ["names a/0,b/0\n", "no\n", "follows a=b: yes\n", "follows a=b: no\n"])


if __name__ == "__main__":
    unittest.main()
