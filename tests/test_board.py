"""[0.2], [0.16], [15.1] to [15.3]: a board of parts."""

import itertools
import unittest

from shownpart.base.facts import read_fact
from shownpart.base.terms import read_term
from shownpart.base.worlds import World
from shownpart.board import board as module
from shownpart.board.board import MAX_PARTS, MAX_QUESTIONS, Board
from shownpart.books.books import Book, are_apart
from shownpart.closing.follows import are_alike, follows, tells
from shownpart.errors import (
    InvalidEdit, InvalidNumber, InvalidOperation, NothingToUndo, TooMany, UnknownName,
)
from shownpart.shown.exchange import are_exchangeable
from shownpart.shown.fitting import fits
from shownpart.shown.settled import settles
from shownpart.shown.shown import is_shown, shown
from tests import parts, samples
from tests.checks import Case
from tests.parts import EMPTY, NEVER, ODD, PAIRED, RING, loose, loose_fact, plain_signature
from tests.samples import A, B, C, E

METHODS = {
    "__init__": "(self, *, kept=100)", "do": "(self, *edits)", "do_all": "(self, edits)", "undo": "(self, *, many=1)",
    "redo": "(self, *, many=1)", "watch": "(self, question)", "unwatch": "(self, question)",
    "answer": "(self, question)", "answers": "(self)", "whole": "(self)", "summary": "(self, *words)",
    "__getitem__": "(self, name)", "keep": "(self, kept)", "__len__": "(self)", "__contains__": "(self, value)",
    "__eq__": "(self, other)", "__str__": "(self)", "__iter__": "(self)", "trial": "(self)",
    "attempt": "(self, action)",
}
AC = read_fact("a=c")
BD = ("follows", read_fact("b=d"))
FITS = ("fits",)
PUT_P, PUT_Q = ("put", "p", PAIRED), ("put", "q", Book.read("a=c"))
QUESTIONS = (FITS, BD, ("settled", E), ("exchange", "p", "q"), ("exchange", "p", "p"))


def of_two():
    """A board with two parts."""
    board = Board()
    board.do(PUT_P, PUT_Q)
    return board


def state_of(board):
    """All that can be asked of a board."""
    return [board.names, [board[name].text for name in board.names], [board[name].names for name in board.names],
            board.steps, board.kept, board.answers(), len(board), str(board), board.whole().text]


class Boards(Case):
    def unchanged(self, kind, board, action, *values, **named):
        """Check that a call raises an error and changes nothing, also not what can be done again."""
        before = state_of(board), self.ways(board)
        error = self.raises(kind, action, *values, **named)
        self.same((state_of(board), self.ways(board)), before)
        return error

    def ways(self, board):
        """What undoing and doing again lead to."""
        def told(same):
            found = []
            for action in (same.undo, same.redo):
                while True:
                    try:
                        found.append((action(), state_of(same)))
                    except NothingToUndo:
                        break
            return found
        return board.attempt(told)


class TestInterface(Case):
    def test_names_and_parameters(self):
        for name, parameters in METHODS.items():
            self.same(plain_signature(vars(Board)[name]), parameters)
        self.same([module.Board.__module__, MAX_PARTS, MAX_QUESTIONS], ["shownpart.board.board", 12, 20])
        for name in ("names", "steps", "kept"):
            self.assertIsInstance(vars(Board)[name], property)

    def test_a_new_board(self):
        board = Board()
        self.same([board.names, board.steps, board.kept, len(board), str(board), board.answers(), board.whole().text],
                  [(), 0, 100, 0, "board of 0 parts, 0 steps", (), ""])
        self.assertTrue(board == board and board != Board() and not board == 1 and board.whole() == Book())
        for value in ODD:
            self.same([board == value, value in board], [False, False])
            self.assertIs(self.raises(UnknownName, board.__getitem__, value).name, value)
        self.raises(TypeError, iter, board)
        self.raises(TypeError, list, of_two())

    def test_parts(self):
        board = of_two()
        self.same([board.names, len(board), str(board), "p" in board, "q" in board, "a" in board, ["p"] in board],
                  [("p", "q"), 2, "board of 2 parts, 1 steps", True, True, False, False])
        self.assertTrue(board["p"] == PAIRED and board["q"] == PUT_Q[2] and board.whole() == PAIRED | PUT_Q[2])
        for value in ["a", "r", "P", *ODD]:
            self.assertIs(self.raises(UnknownName, board.__getitem__, value).name, value)
            self.assertFalse(value in board)
        board.do(("put", "b", Book()))
        self.same(board.names, ("b", "p", "q"))


class TestEdits(Boards):
    def test_each_edit(self):
        board = Board()
        for edit, name, text in ((PUT_P, "p", PAIRED.text), (("tell", "p", read_fact("a=f(e,e)")), "p",
                                                             "hidden e\na=f(e,e)\nb=f(e,a)\nd=f(e,c)"),
                                 (("untell", "p", loose_fact("f(e,c)=d")), "p",
                                  "hidden e\nnames c/0,d/0\na=f(e,e)\nb=f(e,a)"),
                                 (("hide", "p", "f"), "p", "hidden e,f\nnames c/0,d/0\na=f(e,e)\nb=f(e,a)"),
                                 (("reveal", "p", "e"), "p", "hidden f\nnames c/0,d/0\na=f(e,e)\nb=f(e,a)"),
                                 (("put", "p", RING), "p", RING.text), (("put", "q", Book()), "q", "")):
            self.same(board.do(edit), ())
            self.same(board[name].text, text)
        self.same([board.do(("drop", "p")), board.names, board.steps, str(board)],
                  [(), ("q",), 8, "board of 1 parts, 8 steps"])

    def test_several_edits_are_one_step(self):
        board = Board()
        self.same([board.do(PUT_P, PUT_Q, ("drop", "p")), board.steps, board.names], [(), 1, ("q",)])
        self.same([board.do_all((PUT_P, ("tell", "q", read_fact("a=c => never")), ("hide", "p", "f"))), board.steps],
                  [(), 2])
        # Each edit sees what those ahead of it made.
        board.do(("put", "r", Book.read("names z/0")), ("tell", "r", NEVER),
                 ("hide", "r", "z"), ("reveal", "r", "z"), ("untell", "r", NEVER), ("drop", "r"))
        self.same([board.names, board.steps], [("p", "q"), 3])
        board.undo()
        self.same([board.names, board.steps], [("p", "q"), 2])

    def test_no_edits_are_no_step(self):
        board = of_two()
        board.do(("drop", "q"))
        board.undo()
        before = state_of(board)
        self.same([board.do(), board.do_all(()), state_of(board) == before], [(), (), True])
        # What was undone can still be done again.
        self.same([board.redo(), board.names], [(), ("p",)])

    def test_what_is_no_edit(self):
        board = of_two()
        board.do(("drop", "q"))
        board.undo()
        for value in [*ODD, ("put", "p"), ("put", "p", 1), ("put", "P", Book()), ("put", 1, Book()), ("drop",), ("drop", "p", 1),
                      ("tell", "p", "a=c"), ("tell", "p"), ("tell", "p", A), ("untell", "p", None), ("hide", "p"),
                      ("hide", "p", 1), ("reveal", "p", "E"), ("hide", "p", ("a",)), ["drop", "p"], ("undo", "p"),
                      ("show", "p", "e"), ("hidden", "p", "a"), ("", "p", "e"), ("drop", "p", "e"), (None, "p", "e"),
                      ("put", "p", Book(), 1), ("Put", "p", Book()), ("drop", None), ("drop", ["p"]), ("drop", {})]:
            self.unchanged(InvalidEdit, board, board.do, value)
            self.unchanged(InvalidEdit, board, board.do, ("drop", "p"), value)
            self.unchanged(InvalidEdit, board, board.do_all, (value,))
            if value != ():
                self.unchanged(InvalidEdit, board, board.do_all, value)
        self.unchanged(InvalidEdit, board, board.do_all, [("drop", "p")])

    def test_what_is_not_possible(self):
        board = of_two()
        board.do(("drop", "q"))
        board.undo()
        for edit in (("drop", "r"), ("tell", "r", NEVER), ("untell", "r", AC), ("hide", "r", "a"), ("reveal", "r", "a"),
                     ("tell", "q", AC), ("tell", "q", read_fact("a=z")), ("tell", "q", read_fact("a=b")),
                     ("tell", "p", read_fact("a=f(a)")), ("untell", "q", read_fact("a=b")), ("untell", "p", AC),
                     ("hide", "p", "e"), ("hide", "p", "z"), ("reveal", "p", "a"), ("reveal", "p", "z"),
                     ("reveal", "q", "e"), ("hide", "q", "b")):
            self.unchanged(InvalidEdit, board, board.do, edit)
            # None of the edits ahead of it is made, either.
            self.unchanged(InvalidEdit, board, board.do, ("drop", "q"), ("put", "s", Book()), edit)
            self.unchanged(InvalidEdit, board, board.do, edit, ("drop", "nothere"))
        # A name can be hidden only if no other part has it, and parts have to stay apart.
        for edit in (("hide", "p", "a"), ("hide", "q", "c"), ("put", "r", RING), ("put", "q", RING), ("put", "r", Book.read(
                "a=e")), ("put", "r", Book(names={"f": 1})), ("put", "r", Book(names={"a": 0}, hidden=("a",)))):
            self.unchanged(InvalidEdit, board, board.do, edit)
        # But in the place of the part itself it is possible.
        self.same([board.do(("put", "p", RING), ("hide", "p", "b")), board["p"].hidden], [(), ("b", "e")])

    def test_eighty_and_eighty_one_nodes(self):
        book = Book(*parts.book_of_nodes(78)).with_names(ya=0, yb=0, yc=0)
        board = Board()
        board.do(("put", "p", book), ("tell", "p", ((), (("ya",), ("yb",)))))
        self.same(len(board["p"].nodes), 80)
        self.unchanged(InvalidEdit, board, board.do, ("tell", "p", ((), (("ya",), ("yc",)))))
        board.do(("tell", "p", ((), (("xaa",), ("ya",)))))
        # Any book can be put, but nothing more told of a great one, also with no further nodes.
        other = book.renamed_by({name: "z" + name[1:] if name[0] == "x" else name + "z" for name in book.names})
        great = book | other
        board.do(("put", "p", great))
        self.same(len(great.nodes), 156)
        self.unchanged(InvalidEdit, board, board.do, ("tell", "p", ((), (("xaa",), ("xac",)))))
        self.unchanged(InvalidEdit, board, board.do, ("tell", "p", NEVER))
        board.do(("untell", "p", great.facts[0]), ("hide", "p", "xaa"), ("reveal", "p", "xaa"))
        self.same([len(board["p"].nodes), board.steps], [154, 4])

    def test_twelve_and_thirteen_parts(self):
        board = Board()
        names = "abcdefghijkl"
        board.do(*[("put", name, Book()) for name in names])
        self.same([len(board), board.steps], [12, 1])
        self.unchanged(InvalidEdit, board, board.do, ("put", "m", Book()))
        self.unchanged(InvalidEdit, board, board.do, ("put", "m", Book()), ("drop", "m"))
        self.same([board.do(("drop", "a"), ("put", "m", Book())), board.do(("put", "m", PAIRED)), len(board)], [(), (), 12])
        self.raises(InvalidEdit, Board().do, *[("put", name, Book()) for name in names + "m"])


class TestSteps(Boards):
    def test_undo_and_redo(self):
        board = Board()
        texts = [board.whole().text]
        for edit in (PUT_P, PUT_Q, ("tell", "q", read_fact("a=c => never")), ("drop", "p"), ("put", "q", EMPTY)):
            board.do(edit)
            texts.append(board.whole().text)
        for k in (4, 3, 2, 1, 0):
            self.same([board.undo(), board.whole().text, board.steps], [(), texts[k], k])
        self.same([board.redo(many=3), board.whole().text, board.steps], [(), texts[3], 3])
        self.same([board.undo(many=2), board.whole().text, board.steps], [(), texts[1], 1])
        self.same([board.undo(many=0), board.redo(many=0), board.whole().text, board.steps], [(), (), texts[1], 1])
        self.same([board.redo(many=4), board.whole().text], [(), texts[5]])
        board.undo(many=2)
        board.do(("drop", "q"))
        self.unchanged(NothingToUndo, board, board.redo)
        self.same([board.steps, board.names], [4, ("p",)])

    def test_wrong_numbers(self):
        board = of_two()
        board.do(("drop", "p"))
        board.do(("drop", "q"))
        board.undo()
        for action in (board.undo, board.redo):
            for value in [value for value in ODD if type(value) is not int] + [-1, -10 ** 59]:
                self.assertIs(self.unchanged(InvalidNumber, board, action, many=value).value, value)
            for value in (3, 4, 10 ** 60 - 1):
                self.assertIs(self.unchanged(NothingToUndo, board, action, many=value).many, value)
        self.assertIs(self.unchanged(NothingToUndo, board, board.redo, many=2).many, 2)
        self.same(self.raises(NothingToUndo, Board().undo).many, 1)
        self.same(self.raises(NothingToUndo, Board().redo).many, 1)
        self.same([Board().undo(many=0), Board().redo(many=0)], [(), ()])

    def test_a_new_step_forgets_undone_ones(self):
        board = of_two()
        board.do(("drop", "p"))
        board.undo()
        board.do(("drop", "q"))
        self.raises(NothingToUndo, board.redo)
        board.undo()
        board.redo()
        self.same(board.names, ("p",))

    def test_how_many_are_kept(self):
        for kept in (0, 1, 2, 1000):
            board = Board(kept=kept)
            for k in range(4):
                board.do(("put", "p", Book(names={"abcd"[k]: 0})))
                self.same([board.steps, board.kept], [min(k + 1, kept), kept])
            self.same(self.raises(NothingToUndo, board.undo, many=board.steps + 1).many, board.steps + 1)
            board.undo(many=board.steps)
            self.same(board.whole().visible, {0: ("d",), 1: ("c",), 2: ("b",), 1000: ()}[kept])

    def test_kept_can_be_changed(self):
        board = Board()
        for k in range(6):
            board.do(("put", "p", Book(names={"abcdef"[k]: 0})))
        board.undo(many=2)
        # The oldest steps too many are forgotten, the undone ones stay.
        board.kept = 3
        self.same([board.kept, board.steps, board.whole().visible], [3, 3, ("d",)])
        self.same([board.keep(1), board.kept, board.steps], [None, 1, 1])
        self.same([board.redo(), board.steps, board.whole().visible], [(), 1, ("e",)])
        self.same([board.redo(), board.steps, board.whole().visible], [(), 1, ("f",)])
        self.same([board.undo(), board.steps, board.whole().visible], [(), 0, ("e",)])
        self.raises(NothingToUndo, board.undo)
        board.kept = 0
        self.same([board.redo(), board.steps, board.whole().visible], [(), 0, ("f",)])
        self.raises(NothingToUndo, board.redo)
        board.kept = 1000
        self.same([board.do(("drop", "p")), board.steps, board.undo(), board.whole().visible], [(), 1, (), ("f",)])

    def test_redo_of_more_steps_than_are_kept(self):
        board = Board()
        for k in range(6):
            board.do(("put", "p", Book(names={"abcdef"[k]: 0})))
        board.undo(many=5)
        board.kept = 2
        self.same([board.redo(many=5), board.steps, board.whole().visible], [(), 2, ("f",)])
        board.undo(many=2)
        self.same(board.whole().visible, ("d",))

    def test_wrong_numbers_to_keep(self):
        board = of_two()

        def assign(value):
            board.kept = value

        for value in [value for value in ODD if not (type(value) is int and 0 <= value <= 1000)] + [-1, 1001, 10 ** 59]:
            self.assertIs(self.raises(InvalidNumber, Board, kept=value).value, value)
            self.assertIs(self.unchanged(InvalidNumber, board, board.keep, value).value, value)
            self.assertIs(self.unchanged(InvalidNumber, board, assign, value).value, value)
        for value in (0, 1, 100, 1000):
            self.same([Board(kept=value).kept, board.keep(value), board.kept], [value, None, value])

    def test_against_a_list_of_parts(self):
        rows = samples.generator_of(151)
        for _ in range(12):
            board, kept = Board(kept=4), 4
            before, now, undone = [], {}, []
            for question in QUESTIONS:
                board.watch(question)
            for _ in range(60):
                kind = rows.randrange(10)
                told = dict(board.answers())
                if kind < 5:
                    edit = self.some_edit(rows, now)
                    if edit is None:
                        continue
                    news = board.do(edit)
                    before.append(now)
                    now, undone = {**now, edit[1]: edit[2]} if edit[0] == "put" else {
                        name: book for name, book in now.items() if name != edit[1]}, []
                elif kind == 5:
                    kept = rows.randint(0, 6)
                    board.kept = kept
                    news = ()
                elif kind < 8 and before:
                    news = board.undo()
                    undone.insert(0, now)
                    now = before.pop()
                elif undone:
                    news = board.redo()
                    before.append(now)
                    now = undone.pop(0)
                else:
                    continue
                before = before[len(before) - kept:] if len(before) > kept else before
                self.same([board.names, board.steps], [tuple(sorted(now)), len(before)])
                self.assertTrue(all(board[name] == now[name] for name in now))
                again = Board()
                again.do(*[("put", name, book) for name, book in now.items()])
                answers = dict(board.answers())
                self.same(news, tuple(question for question in QUESTIONS if answers[question] != told[question]))
                # Boards with equal parts answer alike, however they came about.
                self.same([again.answer(question) for question in QUESTIONS], list(answers.values()))
                self.same([board.answer(question) for question in QUESTIONS], list(answers.values()))

    def some_edit(self, rows, now):
        if now and rows.random() < 0.25:
            return ("drop", rows.choice(sorted(now)))
        book = rows.choice([PAIRED, RING, EMPTY, Book.read("a=c"), Book.read("b=d => never"), loose("e", "a=e", "b=e"), Book(
            NEVER), shown(PAIRED)])
        name = rows.choice("pqr")
        others = [now[other] for other in now if other != name]
        return ("put", name, book) if all(are_apart(book, other) for other in others) else None


class TestQuestions(Boards):
    def test_answers(self):
        board = of_two()
        board.do(("put", "r", loose("h", "a=h", z=1)))
        for question, told in ((FITS, True), (BD, True), (("follows", read_fact("a=b")), False),
                               (("follows", read_fact("a=h")), True), (("follows", read_fact("d=f(e,h)")), True),
                               (("follows", read_fact("b=y")), None), (("follows", read_fact("b=f(a)")), None),
                               (("follows", NEVER), False), (("settled", A), True), (("settled", E), False),
                               (("settled", ("h",)), True), (("settled", read_term("f(e,c)")), True),
                               (("settled", read_term("z(f(e,a))")), True), (("settled", ("y",)), None),
                               (("settled", ("f", A)), None), (("exchange", "p", "p"), True),
                               (("exchange", "p", "q"), False), (("exchange", "p", "s"), None),
                               (("exchange", "s", "p"), None), (("exchange", "s", "s"), None),
                               (("exchange", "q", "r"), False)):
            self.same([board.answer(question), board.answer(question)], [told, told])

    def test_answers_without_parts(self):
        board = Board()
        self.same([board.answer(question) for question in (FITS, ("follows", NEVER), BD, ("settled", A), (
            "exchange", "p", "p"))], [True, False, None, None, None])

    def test_an_empty_whole(self):
        board = of_two()
        board.do(("tell", "q", read_fact("a=c => never")))
        self.same([board.answer(question) for question in (FITS, BD, ("follows", NEVER), ("settled", A), ("settled", E), (
            "settled", ("z",)), ("follows", read_fact("a=z")))], [False, True, True, False, False, None, None])

    def test_exchange_of_parts_that_are_not_comparable_or_too_great(self):
        board = Board()
        seven = loose("k", "k(a)=p", "k(b)=p", "k(c)=p", "k(d)=k(q) & k(a)=k(r) => k(s)=p")
        board.do(("put", "p", seven), ("put", "q", Book.read("a=p")))
        for names in (("p", "q"), ("q", "p"), ("p", "p")):
            self.same(board.answer(("exchange", *names)), None)
        board.do(("tell", "p", NEVER))
        self.same([board.answer(("exchange", *names)) for names in (("p", "q"), ("q", "p"), ("p", "p"), ("q", "q"))],
                  [False, False, True, True])
        board.do(("put", "p", seven.reveal("k")))
        self.same([board.answer(("exchange", *names)) for names in (("p", "q"), ("p", "p"))], [False, True])
        board.do(("put", "fits", Book(NEVER)))
        self.same([board.answer(("exchange", "q", "fits")), board.answer(("exchange", "fits", "fits")), board.answer(FITS)],
                  [False, True, False])

    def test_what_is_no_question(self):
        board = of_two()
        board.watch(FITS)
        for value in [*ODD, (), ("fits", "p"), "fits", ("Fits",), ("follows",), ("follows", "a=b"), ("follows", A),
                      ("follows", AC, AC), ("settled",), ("settled", "a"), ("settled", AC), ("settled", ("f", A, ("f",))),
                      ("exchange", "p"), ("exchange", "p", "q", "r"), ("exchange", "P", "q"), ("exchange", "p", 1),
                      ["fits"], ("exchange", ["p"], "q"), (FITS,), ("settles", A),
                      ("swap", "p", "q"), (None, "p", "q"), ("fits", "p", "q"), ("p", "fits"), ("follow", AC)]:
            for action in (board.watch, board.unwatch, board.answer):
                self.unchanged(InvalidOperation, board, action, value)

    def test_watch(self):
        board = of_two()
        self.same([board.watch(question) for question in QUESTIONS], [True, True, False, False, True])
        told = tuple(zip(QUESTIONS, [True, True, False, False, True]))
        self.same([board.answers(), board.steps], [told, 1])
        # One that is watched keeps its place.
        self.same([board.watch(BD), board.watch(FITS), board.answers()], [True, True, told])
        self.same([board.unwatch(BD), board.answers()], [None, (told[0], *told[2:])])
        self.unchanged(InvalidOperation, board, board.unwatch, BD)
        self.same([board.watch(BD), board.answers()], [True, (told[0], *told[2:], told[1])])
        self.same([board.undo(), board.answers() != told, board.steps], [(QUESTIONS[2], QUESTIONS[3], QUESTIONS[4], BD),
                                                                         True, 0])

    def test_twenty_and_twenty_one_questions(self):
        board = of_two()
        questions = [("settled", (name,)) for name, in parts.cells(21)]
        for question in questions[:20]:
            self.same(board.watch(question), None)
        self.same(self.unchanged(TooMany, board, board.watch, questions[20]).limit, 20)
        self.unchanged(InvalidOperation, board, board.watch, 1)
        self.unchanged(InvalidOperation, board, board.unwatch, questions[20])
        self.same([board.watch(questions[3]), len(board.answers()), board.answer(questions[20])], [None, 20, None])
        board.unwatch(questions[0])
        self.same([board.watch(questions[20]), board.answers()[-1], len(board.answers())], [None, (questions[20], None), 20])

    def test_news(self):
        board = of_two()
        other = ("follows", read_fact("a=c"))
        for question in (other, ("exchange", "p", "q"), BD, FITS):
            board.watch(question)
        self.same(board.do(("untell", "q", AC)), (other, BD))
        self.same([board.undo(), board.redo(), board.undo()], [(other, BD)] * 3)
        self.same(board.do(("drop", "q")), (other, ("exchange", "p", "q"), BD))
        self.same(board.do(("put", "q", PAIRED.renamed(e="k"))), (("exchange", "p", "q"),))
        self.same(dict(board.answers()), {other: False, ("exchange", "p", "q"): True, BD: False, FITS: True})
        self.same(board.do(("tell", "q", NEVER)), (other, ("exchange", "p", "q"), BD, FITS))
        self.same(board.undo(many=3), (FITS,))
        # A step that leads back tells nothing.
        self.same(board.do(("drop", "q"), PUT_Q), ())

    def test_deep_questions(self):
        deep = [read_term("s(" * 2000 + end + ")" * 2000) for end in "ab"]
        board = Board()
        board.do(("put", "p", loose("e", "a=b", "a=s(e)")))
        fact = ((), (deep[0], deep[1]))
        self.same([board.watch(("follows", fact)), board.watch(("settled", deep[0])), board.watch(("follows", fact)),
                   len(board.answers())], [True, True, True, 2])
        self.same([len(board.do(("untell", "p", read_fact("a=b")))), board.unwatch(("follows", fact)), len(board.answers())],
                  [1, None, 1])

    def test_shown_books_in_the_place_of_parts(self):
        rows = samples.generator_of(152)
        for _ in range(60):
            books = parts.random_apart_books(rows, 2)
            board, other = Board(), Board()
            board.do(*[("put", name, book) for name, book in zip("pq", books)])
            other.do(*[("put", name, book) for name, book in zip("pq", (shown(books[0]), shown(books[1])))])
            whole, names = board.whole(), list(board.whole().visible)
            questions = [FITS, ("exchange", "p", "q"), *[("follows", parts.random_fact(rows, 1, names)) for _ in range(4)]]
            self.same([board.answer(question) for question in questions], [other.answer(question) for question in questions])
            self.same(board.answer(FITS), fits(*books))
            for question in questions[2:]:
                self.same(board.answer(question), parts.plain_follows(whole, question[1]))
            self.same(board.answer(questions[1]), are_exchangeable(*books))
            term = rows.choice(whole.nodes)
            self.same(board.answer(("settled", term)), settles(whole, term) is not None)
            self.assertTrue(are_alike(shown(other.whole()), other.whole()) and whole == books[0] | books[1])


class TestSummary(Boards):
    def test_results(self):
        board = of_two()
        result = board.summary("b", "d")
        self.same([result.names, tells(result, Book.read("b=d")), tells(Book.read("b=d"), result)],
                  [{"b": 0, "d": 0}, True, True])
        self.same([board.summary("b", "d", "b", "d") == result, board.summary("d", "b") == result], [True, True])
        self.same(Board().summary().text, "")
        board.do(("put", "q", Book(NEVER)))
        self.same([board.summary().text, board.summary("a").text, board.steps], ["never", "names a/0\nnever", 2])

    def test_random_boards(self):
        rows = samples.generator_of(153)
        found = 0
        for _ in range(60):
            board = Board()
            board.do(*[("put", name, book) for name, book in zip("pqr", parts.random_apart_books(rows, 3))])
            whole = board.whole()
            words = rows.sample(whole.visible, rows.randint(0, len(whole.visible)))
            gone = [name for name in whole.visible if name not in words]
            if parts.is_within_limits(whole.hide(*gone)):
                found += 1
                self.assertTrue(is_shown(whole.hide(*gone), board.summary(*words)))
            else:
                self.assertIn(self.unchanged(TooMany, board, board.summary, *words).limit, (4, 6))
        self.assertGreater(found, 10)

    def test_errors(self):
        board = of_two()
        for value in [*ODD, "e", "z", "p", "F"]:
            self.assertIs(self.unchanged(UnknownName, board, board.summary, value).name, value)
            self.assertIs(self.unchanged(UnknownName, board, board.summary, "a", value, "y", "b").name, value)
        # The seven nodes have no name that is left.
        self.same(self.unchanged(TooMany, board, board.summary).limit, 6)
        self.same(self.unchanged(UnknownName, board, board.summary, "e").name, "e")
        board.do(("tell", "p", NEVER))
        self.same(board.summary().text, "never")
        board.do(("put", "p", Book.read("a=b\nb=d\nd=e\ne=f\nc=d => e=g")))
        self.same(self.unchanged(TooMany, board, board.summary, "a", "c", "g").limit, 4)


class TestTrials(Boards):
    def test_all_is_put_back(self):
        board = of_two()
        board.do(("drop", "q"))
        board.do(("drop", "p"))
        board.undo(many=2)
        for question in QUESTIONS[:3]:
            board.watch(question)
        before = state_of(board), self.ways(board)
        with board.trial() as same:
            self.assertIs(same, board)
            self.same(board.do(("untell", "q", AC)), (BD,))
            board.unwatch(FITS)
            board.watch(QUESTIONS[4])
            board.kept = 0
            board.do(("drop", "p"))
            self.same([board.steps, board.kept, board.names, len(board.answers())], [0, 0, ("q",), 3])
        self.same((state_of(board), self.ways(board)), before)
        with board.trial():
            board.redo()
            board.undo(many=2)
            board.watch(QUESTIONS[3])
            self.same(board.steps, 0)
        self.same((state_of(board), self.ways(board)), before)

    def test_errors_go_on(self):
        board = of_two()
        board.watch(BD)
        before = state_of(board), self.ways(board)
        error = InvalidEdit("mine")
        for kind, action in ((InvalidEdit, lambda: board.do(("drop", "z"))), (KeyError, lambda: {}["a"]),
                             (NothingToUndo, lambda: board.undo(many=9)), (TypeError, lambda: iter(board))):
            def trial():
                with board.trial() as same:
                    same.do(("drop", "q"))
                    same.keep(0)
                    action()
            self.raises(kind, trial)
            self.same((state_of(board), self.ways(board)), before)
        with self.assertRaises(InvalidEdit) as told:
            with board.trial():
                board.do(("drop", "p"))
                raise error
        self.assertIs(told.exception, error)
        self.same((state_of(board), self.ways(board)), before)

    def test_trials_within_trials(self):
        board = of_two()
        board.watch(FITS)
        states = [state_of(board)]
        with board.trial():
            board.do(("drop", "q"))
            board.keep(7)
            states.append(state_of(board))
            try:
                with board.trial() as same:
                    same.do(("drop", "p"))
                    same.unwatch(FITS)
                    with same.trial():
                        same.undo(many=3)
                        self.same(same.names, ())
                    self.same([same.names, same.answers()], [(), ()])
                    raise KeyError("in the middle")
            except KeyError:
                pass
            self.same(state_of(board), states[1])
            with board.trial():
                board.undo()
                board.watch(BD)
                self.same(board.names, ("p", "q"))
            self.same(state_of(board), states[1])
        self.same(state_of(board), states[0])

    def test_one_trial_used_again_and_within_itself(self):
        board = of_two()
        trial = board.trial()
        # What counts is the beginning of the block.
        board.do(("put", "r", Book()))
        names = board.names
        with trial:
            board.do(("drop", "r"))
            with trial as same:
                same.do(("drop", "p"))
                with trial:
                    same.do(("drop", "q"))
                self.same(board.names, ("q",))
            self.same(board.names, ("p", "q"))
        self.same(board.names, names)
        board.do(("drop", "p"))
        with trial:
            board.do(("drop", "q"))
        self.same(board.names, ("q", "r"))

    def test_attempt(self):
        board = of_two()
        board.watch(BD)
        before = state_of(board), self.ways(board)

        def action(same):
            self.assertIs(same, board)
            return same.do(("untell", "q", AC)), same.answers(), same.attempt(lambda again: again.undo()), same.steps

        self.same(board.attempt(action), ((BD,), ((BD, False),), (BD,), 2))
        self.same((state_of(board), self.ways(board)), before)
        self.same([board.attempt(lambda same: None), board.attempt(len), board.attempt(str)],
                  [None, 2, "board of 2 parts, 1 steps"])
        self.assertIs(board.attempt(lambda same: same), board)
        self.unchanged(InvalidEdit, board, board.attempt, lambda same: same.do(("drop", "p"), ("drop", "p")))
        self.unchanged(KeyError, board, board.attempt, lambda same: same.do(("drop", "p")) + {}["a"])
        self.unchanged(UnknownName, board, board.attempt, lambda same: same.attempt(lambda again: again["z"]))

    def test_that_nothing_gives_access(self):
        board = of_two()
        board.watch(BD)
        before = state_of(board), self.ways(board)
        board["p"].names["z"] = 1
        board.whole().names.pop("a")
        board["p"].hide("a")
        board["p"].with_facts(AC)
        list(board.answers()).clear()
        list(board.names).append("z")
        self.same((state_of(board), self.ways(board)), before)
        places = {"a": 0}
        book = Book(names=places)
        edits = [("put", "r", book)]
        board.do_all(tuple(edits))
        places["b"] = 0
        edits.clear()
        self.same(board["r"].names, {"a": 0})

    def test_two_boards(self):
        one, other = of_two(), of_two()
        one.do(("drop", "p"))
        self.same([one.names, other.names, one == other, follows(other.whole(), read_fact("b=d"))],
                  [("q",), ("p", "q"), False, True])
        self.same([list(itertools.chain(one.names, other.names)), World(1) == one, B == one, C in one],
                  [["q", "p", "q"], False, False, False])


if __name__ == "__main__":
    unittest.main()
