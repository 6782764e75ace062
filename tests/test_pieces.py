"""[14.1] to [14.4]: pieces of code."""

import itertools
import unittest

from shownpart.base.facts import fact_text, places_in, read_fact
from shownpart.base.terms import levels, size_of
from shownpart.base.worlds import World, worlds_of
from shownpart.books.books import Book
from shownpart.closing.closing import Closing
from shownpart.closing.follows import are_alike, follow_paper, follows, is_follow_paper
from shownpart.code import pieces as module
from shownpart.code.pieces import MAX_STEPS, Piece, are_interchangeable, code_paper, is_code_paper
from shownpart.errors import InvalidCode, InvalidNumber, InvalidOperation, InvalidWorld, ParseError, TooMany
from shownpart.growths.growths import carries, grown, growth_paper
from shownpart.shown.cases import cases, hidden_terms
from shownpart.shown.exchange import is_exchange_paper
from shownpart.shown.settled import is_settled, settles
from shownpart.shown.shown import is_shown, shown
from shownpart.text.formats import book_table, piece_text, read_piece, read_table
from tests import parts, samples
from tests.checks import Case
from tests.parts import ODD, f, g, plain_signature
from tests.samples import A, B, C

INTERFACE = {
    "are_interchangeable": "(one, other)", "code_paper": "(one, other)", "is_code_paper": "(one, other, value)",
}
METHODS = {
    "__init__": "(self, *steps, ins=(), outs=())", "book": "(self)", "summary": "(self)",
    "run": "(self, world, *things, given=())", "__len__": "(self)", "__eq__": "(self, other)", "__str__": "(self)",
    "__add__": "(self, other)",
}
X, Y, T = ("x",), ("y",), ("t",)
BACK = Piece(("any", "t"), ("same", f(T, X), Y), ("set", "x", T), ins=("x", "y"), outs=("x",))
NEAR = World(2, f=(2, {(1, 0): 1}))
NO_PIECES = [value for value in ODD if not isinstance(value, Piece)]


def copying(many):
    """A piece with so many steps, each of which adds 39 levels to what x is."""
    return [("set", "x", samples.chain(39, X)) for _ in range(many)]


def spelled(*lines, ins=(), outs=()):
    """The piece whose steps some lines tell."""
    return read_piece("\n".join([" ".join(["ins", ",".join(ins)]).strip(), " ".join(["outs", ",".join(outs)]).strip(),
                                 *lines]))


def renamed_piece(piece, **names):
    """The piece with other names."""
    def other(part):
        if isinstance(part, tuple):
            return samples.plain_renamed(part, names)
        return names.get(part, part)
    steps = [(step[0], *[other(part) for part in step[1:]]) for step in piece.steps]
    ins, outs = [tuple(sorted(names.get(name, name) for name in told)) for told in (piece.ins, piece.outs)]
    return Piece(*steps, ins=ins, outs=outs)


def free_registers(piece):
    return [name for name in piece.registers if name not in piece.ins]


def many_given(piece):
    return len(free_registers(piece)) + sum(step[0] == "any" for step in piece.steps)


def all_runs(piece, world, things):
    """What all runs return that end."""
    runs = [piece.run(world, *things, given=given) for given in itertools.product(range(world.size),
                                                                                 repeat=many_given(piece))]
    return {told for told in runs if told is not None}


def random_piece(rows, many=None):
    def term(depth):
        if depth == 0 or rows.random() < 0.5:
            return (rows.choice(["x", "y", "t", "c"]),)
        return (("g", term(depth - 1)) if rows.random() < 0.7 else ("f", term(depth - 1), term(depth - 1)))

    steps = []
    for _ in range(rows.randint(0, 4) if many is None else many):
        kind = rows.choice(["set", "set", "any", "same", "same", "differ"])
        if kind == "set":
            steps.append(("set", rows.choice("xyt"), term(2)))
        elif kind == "any":
            steps.append(("any", rows.choice("xyt")))
        else:
            steps.append((kind, term(1), term(1)))
    ins, outs = [tuple(sorted(rows.sample("xyt", rows.randint(0, most)))) for most in (3, 2)]
    return Piece(*steps, ins=ins, outs=outs)


class TestInterface(Case):
    def test_names_and_parameters(self):
        for name, parameters in INTERFACE.items():
            action = getattr(module, name)
            self.same([plain_signature(action), action.__module__], [parameters, "shownpart.code.pieces"])
        for name, parameters in METHODS.items():
            self.same(plain_signature(vars(Piece)[name]), parameters)
        self.same([MAX_STEPS, Piece.MAX_LETTERS, plain_signature(Piece.of)], [20, 5, "(steps, ins, outs)"])
        for name in ("steps", "ins", "outs", "registers", "names"):
            self.assertIsInstance(vars(Piece)[name], property)


class TestMade(Case):
    def test_properties(self):
        self.same([BACK.steps, BACK.ins, BACK.outs, BACK.registers, BACK.names, len(BACK), str(BACK)], [
            (("any", "t"), ("same", f(T, X), Y), ("set", "x", T)), ("x", "y"), ("x",), ("t", "x", "y"), {"f": 2}, 3,
            "piece of 3 steps: x, y to x"])
        empty = Piece()
        self.same([empty.steps, empty.ins, empty.outs, empty.registers, empty.names, len(empty), str(empty)],
                  [(), (), (), (), {}, 0, "piece of 0 steps: nothing to nothing"])
        one = Piece(("same", ("h", C, B, X), A), ("set", "y", B), ins=("x",), outs=("z",))
        self.same([one.registers, one.names, str(one)],
                  [("x", "y", "z"), {"a": 0, "b": 0, "c": 0, "h": 3}, "piece of 2 steps: x to z"])
        self.same(list(one.names), ["a", "b", "c", "h"])

    def test_registers_are_registers_from_the_beginning_on(self):
        piece = Piece(("same", X, Y), ("set", "x", A), ("any", "y"))
        self.same([piece.registers, piece.names, piece.book().text], [("x", "y"), {"a": 0},
                                                                      "hidden hiddenaa,hiddenab\nnames a/0\n"
                                                                      "hiddenaa=hiddenab"])
        self.same(Piece(("same", X, Y)).names, {"x": 0, "y": 0})
        # A register can also stand in outs alone.
        self.same([Piece(outs=("x",)).registers, Piece(outs=("x",)).book().text], [("x",), "hidden hiddenaa\n"
                                                                                   "hiddenaa=xout"])

    def test_of(self):
        self.assertTrue(Piece.of(BACK.steps, ("x", "y"), ("x",)) == BACK == Piece(*BACK.steps, ins=BACK.ins, outs=BACK.outs))
        for value in ODD:
            if not isinstance(value, tuple):
                self.raises(InvalidCode, Piece.of, value, (), ())
                self.raises(InvalidCode, Piece.of, value, value, value)

    def test_what_is_no_step(self):
        for value in [*ODD, ("any", "x", "y"), ("any",), ("any", X), ("set", "x"), ("set", X, X), ("set", "x", "y"),
                      ("set", "x", Y, Y), ("same", X), ("same", X, "y"), ("same", "x", Y), ("differ", X, Y, T), ("go", X, Y),
                      ["any", "x"], ("any", "X"), ("set", "x", ("f", X, ("f", X))), ("same", ("a", A), X), (), ("set",),
                      ("Any", "x"), (A, "x"), ("differ", X, None)]:
            for steps in ((value,), (("any", "x"), value), (value, ("any", "x"), value)):
                self.raises(InvalidCode, Piece, *steps)
                self.raises(InvalidCode, Piece, *steps, ins=1, outs=1)
                self.raises(InvalidCode, Piece.of, steps, (), ())

    def test_what_are_no_registers(self):
        for value in [*[value for value in ODD if value not in ((), ("a", "b"))], ("y", "x"), ("x", "x"), ["x"], {"x": 0}, "x", (X,), ("X",),
                      ("x", None), ("x", 1)]:
            self.raises(InvalidCode, Piece, ins=value)
            self.raises(InvalidCode, Piece, outs=value)
            self.raises(InvalidCode, Piece.of, (), value, ())
            self.raises(InvalidCode, Piece.of, (), (), value)

    def test_names(self):
        for right in (Piece(("set", "abcde", ("vwxyz", ("klmno",)))), Piece(ins=("abcde",), outs=("vwxyz",)),
                      Piece(("same", ("xon",), ("ino",)), ins=("x",)), Piece(("same", ("xinn",), ("in",)), ins=("x",)),
                      Piece(("same", ("xi",), ("out",)), outs=("x",)), Piece(("same", ("ain",), ("bout",)), outs=("x",)),
                      Piece(("any", "in"), ("any", "out"))):
            self.assertIsInstance(right, Piece)
        for steps, ins, outs in (((("set", "abcdef", A),), (), ()), ((("any", "abcdef"),), (), ()), ((), ("abcdef",), ()),
                                 ((), (), ("abcdef",)), ((("same", ("abcdef",), A),), (), ()),
                                 ((("same", ("abcdef", A), A),), (), ()), ((("same", g(A), ("g", A, A)),), (), ()),
                                 ((("same", g(A), A), ("differ", ("g",), A)), (), ()), ((("set", "x", ("x", A)),), (), ()),
                                 ((("same", ("x", A), A),), ("x",), ()), ((("same", ("x", A), A),), (), ("x",)),
                                 ((("same", ("xin",), A),), ("x",), ()), ((("same", ("xin",), A),), (), ("x",)),
                                 ((("same", ("xout",), A),), ("x",), ()), ((("same", ("xin", A), A), ("any", "x")), (), ()),
                                 ((), ("x", "xin"), ()), ((), ("x",), ("xout",)), ((("any", "xin"), ("any", "x")), (), ()),
                                 ((("set", "y", ("xout",)), ("set", "x", A)), (), ()), ((("any", "i"),), (), ("iin",))):
            self.raises(InvalidCode, Piece, *steps, ins=ins, outs=outs)
            self.raises(InvalidCode, Piece.of, steps, ins, outs)

    def test_twenty_and_twenty_one_steps(self):
        self.same(len(Piece(*[("any", "x")] * 20)), 20)
        self.raises(InvalidCode, Piece, *[("any", "x")] * 21)
        self.raises(InvalidCode, Piece.of, (("any", "x"),) * 21, (), ())

    def test_a_hundred_registers(self):
        names = tuple(name for name, in parts.cells(101))
        self.same(len(Piece(ins=names[:100]).registers), 100)
        self.same(len(Piece(("set", names[99], A), ins=names[:50], outs=names[40:99]).registers), 100)
        self.raises(InvalidCode, Piece, ins=names)
        self.raises(InvalidCode, Piece, ("any", names[100]), ins=names[:60], outs=names[50:100])
        piece = Piece(*[("any", names[k]) for k in range(20)], outs=names[:100])
        book = piece.book()
        # One hundred hidden cells of registers; those of the first twenty are left out.
        self.same([len(book.hidden), book.hidden[0], book.hidden[-1], len(book.nodes)],
                  [100, "hiddenaa", "hiddendv", 200])
        self.same(set(fact_text(fact) for fact in book.facts), {
            f"{name}={other}" for name, other in zip(book.hidden, [name + "out" for name in [*names[20:100], *names[:20]]])})

    def test_equal(self):
        for other in (Piece(*BACK.steps, ins=("x", "y"), outs=("y",)), Piece(*BACK.steps[:2], ins=("x", "y"), outs=("x",)),
                      Piece(*BACK.steps, ins=("x",), outs=("x",)), Piece(*BACK.steps[::-1], ins=("x", "y"), outs=("x",)),
                      renamed_piece(BACK, t="s"), *ODD):
            self.same([BACK == other, other == BACK, BACK != other], [False, False, True])
        self.assertFalse(Piece(("any", "x")) == Piece(("set", "x", ("any",))))
        self.assertFalse(Piece(("same", X, Y)) == Piece(("differ", X, Y)))
        deep = samples.chain(2000, X)
        self.assertTrue(Piece(("same", deep, X)) == Piece(("same", samples.chain(2000, X), X)))
        self.assertFalse(Piece(("same", deep, X)) == Piece(("same", samples.chain(2001, X), X)))

    def test_that_nothing_gives_access(self):
        steps = [("any", "x")]
        piece = Piece.of(tuple(steps), ("x",), ())
        piece.names["a"] = 3
        self.same([piece.names, piece.steps], [{}, (("any", "x"),)])
        book = piece.book()
        self.assertTrue(book == piece.book() and piece.summary() == piece.summary())


class TestBook(Case):
    def test_results(self):
        for piece, text in (
                (BACK, "hidden hiddenaa\nf(hiddenaa,xin)=yin\nhiddenaa=xout"),
                (Piece(), ""), (Piece(ins=("x",)), "names xin/0"), (Piece(ins=("x",), outs=("x",)), "xin=xout"),
                (spelled("x := g(x)", "x := g(x)", ins="x", outs="x"), "g(g(xin))=xout"),
                (spelled("x := f(x,y)", "y := f(x,y)", ins="xy", outs="y"), "f(f(xin,yin),yin)=yout"),
                (spelled("x := any", "x := any", "x := any"), ""), (spelled("x = a"), "a=x"),
                (spelled("x := any", "x = a"), "hidden hiddenaa\na=hiddenaa"), (spelled("x <> a", ins="x"), "a=xin => never"),
                (spelled("x = x", ins="x"), "names xin/0"), (spelled("x <> x", ins="x"), "names xin/0\nnever"),
                (spelled("t := x", "t = x", ins="x"), "names xin/0"), (spelled("t := x", "t <> x", ins="x"),
                                                                       "names xin/0\nnever"),
                (spelled("x := g(a)"), "names a/0,g/1"), (spelled("x := a", "x := b", outs="x"), "names a/0\nb=xout"),
                (spelled("x = a", "x = a", "a = x", ins="x"), "a=xin"),
                (spelled("x := any", "y := any", "y = a", "z = a", "z := any", outs="z"),
                 "hidden hiddenaa,hiddenab,hiddenac\na=hiddenaa\na=hiddenab\nhiddenac=zout"),
                (spelled("x := y", "y := x", outs=("x", "y")), "hidden hiddenaa\nhiddenaa=xout\nhiddenaa=yout")):
            self.same(piece.book().text, text)

    def test_all_registers_change_at_once(self):
        piece = spelled("x := f(x,f(y,x))", ins="xy", outs="x")
        self.same(piece.book().text, "f(xin,f(yin,xin))=xout")

    def test_names_of_hidden_cells(self):
        # First those of the registers b and d, ascending, then those of the steps; c is passed, a stands in no fact.
        piece = spelled("z := any", "d = p", "z = p", "b = p", "z := any", "c = z", "a := any", "a := p", ins="c")
        self.same([piece.registers, piece.book().text], [("a", "c", "z"), "hidden hiddenaa,hiddenab\n"
                                                         "b=p\ncin=hiddenab\nd=p\nhiddenaa=p"])
        piece = spelled("z := any", "d = p", "z = p", "b = p", "z := any", "c = z", "a := any", "d := p", "b := p", "a := p",
                        ins="c")
        self.same(piece.book().text, "hidden hiddenaa,hiddenab,hiddenac,hiddenad\ncin=hiddenad\nhiddenaa=p\nhiddenab=p\n"
                                     "hiddenac=p")
        self.same(sorted(piece.book().names), ["cin", "hiddenaa", "hiddenab", "hiddenac", "hiddenad", "p"])

    def test_pairs_are_ordered_by_the_final_names(self):
        piece = spelled("t = a", "t = zz", "g(t) = h(t)", "t = u", outs="t")
        self.same([fact_text(fact) for fact in piece.book().facts],
                  ["a=hiddenaa", "g(hiddenaa)=h(hiddenaa)", "hiddenaa=tout", "hiddenaa=u", "hiddenaa=zz"])

    def test_two_hundred_and_two_hundred_and_one_subterms(self):
        right = Piece(*copying(5), ("set", "x", samples.chain(4, X)), ins=("x",), outs=("x",))
        book = right.book()
        self.same([size_of(book.facts[0][1][0]), levels(book.facts[0][1][0]), len(book.nodes)], [200, 200, 201])
        right.summary()
        for step in (("set", "x", samples.chain(5, X)), ("set", "y", samples.chain(5, X)), ("set", "t", f(X, g(g(g(A)))))):
            great = Piece(*copying(5), step, ("set", step[1], A), ("set", "x", A), ins=("x",), outs=("x",))
            for action in (great.book, great.summary, lambda: are_interchangeable(great, great),
                           lambda: are_interchangeable(great, Piece(ins=("x",), outs=("x",))),
                           lambda: code_paper(Piece(ins=("x",), outs=("x",)), great),
                           lambda: is_code_paper(great, great, 1)):
                self.same(self.raises(TooMany, action).limit, 200)
        # Repeats count: seven levels of pairs have 255 subterms, six have 127.
        double = [("set", "x", f(X, X))]
        self.same(len(Piece(*double * 6, ins=("x",), outs=("x",)).book().nodes), 8)
        self.same(self.raises(TooMany, Piece(*double * 7, ins=("x",), outs=("x",)).book).limit, 200)
        # A run works on things alone.
        world = World(2, f=(2, {(1, 1): 1}))
        self.same(Piece(*double * 20, ins=("x",), outs=("x",)).run(world, 1), (1,))

    def test_the_present_values_come_ahead_of_the_limits(self):
        hidden = [("same", ("g", (name,)), ("g", ("g", (name,)))) for name in "bcde"]
        free = [("any", name) for name in "bcde"]
        self.same(self.raises(TooMany, Piece(*free, *hidden, ins=("x",)).summary).limit, 6)
        great = Piece(*free, *hidden, *copying(5), ("set", "x", samples.chain(5, X)), ins=("x",))
        self.same(self.raises(TooMany, great.summary).limit, 200)
        self.same(self.raises(TooMany, are_interchangeable, Piece(*free, *hidden, ins=("x",)), great).limit, 200)

    def test_the_limits_of_showing(self):
        facts = Piece(("any", "t"), *[("same", ("h", T, (name,)), A) for name in "bcde"], ins=("x",))
        self.same(is_shown(facts.book(), facts.summary()), True)
        five = Piece(*facts.steps, ("differ", T, X), ins=("x",))
        self.same(self.raises(TooMany, five.summary).limit, 4)
        terms = Piece(("any", "t"), ("same", samples.chain(5, T), A), ins=("x",))
        self.same([len(hidden_terms(terms.book())), is_shown(terms.book(), terms.summary())], [6, True])
        seven = Piece(("any", "t"), ("same", samples.chain(6, T), A), ins=("x",))
        self.same(self.raises(TooMany, seven.summary).limit, 6)
        # An empty book has no limits.
        self.same(Piece(*seven.steps, ("differ", T, T), ins=("x",)).summary().text, "names a/0,s/1,xin/0\nnever")

    def test_summaries(self):
        rows = samples.generator_of(141)
        shown_many = 0
        for _ in range(200):
            piece = random_piece(rows)
            book = piece.book()
            if parts.is_within_limits(book):
                shown_many += 1
                summary = piece.summary()
                self.assertTrue(summary == shown(book) and is_shown(book, summary))
        self.assertGreater(shown_many, 100)

    def test_deep_terms_go_through_all_functions(self):
        piece = Piece(*copying(5), ("any", "t"), ("same", f(T, samples.chain(39, X)), Y), ("set", "y", T), ins=("x", "y"),
                      outs=("y",))
        book = piece.book()
        self.same([max(levels(node) for node in book.nodes), book.hidden], [236, ("hiddenaa",)])
        summary = piece.summary()
        fact = book.facts[0]
        self.assertTrue(is_shown(book, summary) and follows(book, fact) and is_follow_paper(book, fact, follow_paper(
            book, fact)))
        self.same([code_paper(piece, piece)[0], is_code_paper(piece, piece, code_paper(piece, piece))], ["same", True])
        world = World.of(2, 0, {name: (many, {}) for name, many in parts.visible_places(book).items()})
        self.same([carries(book, world), growth_paper(book, world)[0], grown(book, world) is None], [True, "growth", False])
        node = hidden_terms(book)[0]
        self.same([settles(book, node) is None, len(list(cases(book, node))) > 0, len(Closing(book)) > 200],
                  [False, True, True])
        self.assertTrue(is_settled(book, node, settles(book, node)))
        self.raises(ParseError, read_table, book_table(book))
        self.assertTrue(book.hide("xin").reveal("xin") == book and (book | Book.read("names z/0")).names["z"] == 0)
        # Terms of 40 levels and 400 subterms over such values.
        leaves = [X] * 200
        while len(leaves) > 1:
            leaves = [f(*leaves[k:k + 2]) if k + 1 < len(leaves) else leaves[k] for k in range(0, len(leaves), 2)]
        self.same(size_of(leaves[0]), 399)
        wide = Piece(*copying(5), ("same", leaves[0], Y), ins=("x", "y"), outs=("x",))
        self.same([len(wide.book().nodes) > 200, wide.summary().names == wide.book().names], [True, True])


class TestRun(Case):
    def test_results(self):
        self.same([BACK.run(NEAR, 0, 1, given=(0, 1)), BACK.run(NEAR, 0, 1, given=(1, 0)), BACK.run(NEAR, 0, 0, given=(1, 0))],
                  [(1,), None, (0,)])
        self.same([Piece().run(World(1)), Piece(ins=("x",), outs=("x",)).run(World(3), 2),
                   Piece(outs=("x", "y")).run(World(3), given=(2, 1)),
                   Piece(ins=("x", "y"), outs=("y",)).run(World(3), 0, 2)], [(), (2,), (2, 1), (2,)])
        world = World(3, a=(0, {(): 2}), g=(1, {(0,): 1, (1,): 2}))
        for lines, things, given, told in ((["x := g(x)", "x := g(x)"], (0,), (), (2,)), (["x := a"], (0,), (), (2,)),
                                           (["x = a"], (2,), (), (2,)), (["x = a"], (1,), (), None),
                                           (["x <> a"], (2,), (), None), (["x <> a"], (1,), (), (1,)),
                                           (["x := any"], (0,), (2,), (2,)), (["x = x"], (0,), (), (0,)),
                                           (["x <> x"], (0,), (), None), (["t := g(x)", "x := g(t)"], (0,), (1,), (2,)),
                                           (["x := t"], (0,), (1,), None), (["t := any", "x := t"], (0,), (1, 2), (2,)),
                                           (["x := any", "x = a", "x := any"], (0,), (2, 1), (1,)),
                                           (["x := any", "x = a", "x := any"], (0,), (1, 1), None)):
            piece = spelled(*lines, ins="x", outs="x")
            if lines == ["x := t"]:
                self.same(piece.names, {"t": 0})
                self.raises(InvalidWorld, piece.run, world, *things, given=given)
            else:
                self.same(piece.run(world, *things, given=given), told)

    def test_things_that_are_given(self):
        # First the values of the registers that are not passed, ascending, then those of the steps, in order.
        piece = spelled("z := any", "y := any", ins="x", outs=("x", "y", "z"))
        self.same(piece.run(World(9), 1, given=(2, 3, 4, 5)), (1, 5, 4))
        piece = spelled("y := z", "z := x", "y := any", ins="x", outs=("y", "z"))
        self.same(piece.run(World(9), 1, given=(2, 3, 4)), (4, 1))
        piece = spelled("y := z", "w := any", ins="x", outs=("w", "y", "z"))
        self.same(piece.run(World(9), 1, given=(2, 3, 4, 5)), (5, 4, 4))
        # Things are wanted also for steps that are not reached.
        piece = spelled("x <> x", "x := any", "x := any", ins="x", outs="x")
        self.same(piece.run(World(2), 0, given=(0, 1)), None)
        for given in ((), (0,), (0, 1, 0)):
            self.same(self.raises(InvalidNumber, piece.run, World(2), 0, given=given).value, len(given))

    def test_further_names_of_the_world(self):
        world = NEAR.with_table("x", 3, {(0, 1, 0): 1}).with_table("t", 0, {(): 1}).with_table("y", 0, {(): 1})
        for things in itertools.product((0, 1), repeat=4):
            self.same(BACK.run(world, *things[:2], given=things[2:]), BACK.run(NEAR, *things[:2], given=things[2:]))

    def test_wrong_worlds(self):
        for value in [*[value for value in ODD if not isinstance(value, World)], World(2), NEAR.with_table("f", 1, {}),
                      NEAR.only(), NEAR.renamed(f="g")]:
            self.raises(InvalidWorld, BACK.run, value, 0, 1, given=(0, 1))
            self.raises(InvalidWorld, BACK.run, value, 9, given=9)
        piece = spelled("x = a", ins="x")
        self.raises(InvalidWorld, piece.run, World(2), 0)
        self.raises(InvalidWorld, piece.run, World(2, a=(1, {})), 0)

    def test_wrong_things(self):
        no_things = [value for value in parts.NO_NUMBERS if not (type(value) is int and 0 <= value < 2)] + [2]
        for value in no_things:
            for things in ((value, 0), (0, value), (value, 3), (0, 0, value), (value,)):
                error = self.raises(InvalidNumber, BACK.run, NEAR, *things, given=9)
                self.assertIs(error.value, value)
            for given in ((value, 0), (0, value), (value, 3), (1, 1, 1, value), (value,)):
                self.assertIs(self.raises(InvalidNumber, BACK.run, NEAR, 0, 1, given=given).value, value)
        for things in ((), (0,), (0, 1, 0)):
            self.same(self.raises(InvalidNumber, BACK.run, NEAR, *things, given=9).value, len(things))
            self.same(self.raises(InvalidNumber, BACK.run, NEAR, 0, 1, given=things).value, len(things))
        for value in ODD:
            if not isinstance(value, tuple):
                self.assertIs(self.raises(InvalidNumber, BACK.run, NEAR, 0, 1, given=value).value, value)
        self.same(BACK.run(NEAR, 0, 1, given=(0, 1)), (1,))

    def test_that_runs_go_with_the_book(self):
        rows = samples.generator_of(142)
        found = {True: 0, False: 0}
        for _ in range(150):
            piece = random_piece(rows)
            book = piece.book()
            if many_given(piece) > 3 or "f" in piece.names:
                continue
            for _ in range(4):
                size = rows.randint(1, 2)
                world = parts.random_world(rows, size, parts.visible_places(book))
                told = carries(book, world)
                found[told] += 1
                self.same(told, self.has_run(piece, book, world))
        self.assertGreater(min(found.values()), 30)

    def has_run(self, piece, book, world):
        """Whether in the world, or in some growth, a run with the values with in ends with those with out."""
        growths = [world]
        if piece.names and carries(book, world):
            growths.append(grown(book, world))
        else:
            growths += [World.of(world.size + 1, world.rest, {name: (many, {
                things: world.at(name, *things) for things in itertools.product(range(world.size), repeat=many)} | {
                    things: value for things in itertools.product(range(world.size + 1), repeat=many)
                    if world.size in things}) for name, many in world.names.items()}) for value in range(world.size + 1)]
        things = [world.at(name + "in") for name in piece.ins]
        told = tuple(world.at(name + "out") for name in piece.outs)
        return any(told in all_runs(piece, growth, things) for growth in growths)

    def test_over_all_worlds(self):
        for piece in (spelled("t := any", "g(t) = x", "x := t", ins="x", outs="x"), spelled("x := g(x)", "x <> c", ins="x",
                                                                                           outs="x"),
                      spelled("x = g(y)", "y := any", ins="x", outs="xy"), spelled("x <> g(x)", outs="x")):
            book = piece.book()
            for size in (1, 2):
                for world in worlds_of(size, parts.visible_places(book)):
                    self.same(carries(book, world), self.has_run(piece, book, world))


class TestAdd(Case):
    def test_results(self):
        one = spelled("x := g(x)", ins="x", outs="x")
        self.assertTrue(one + one == spelled("x := g(x)", "x := g(x)", ins="x", outs="x"))
        further = spelled("z := x", ins="x", outs="z")
        # The registers of the second one that are not passed begin anew.
        self.assertTrue(BACK + further == Piece(*BACK.steps, ("any", "z"), ("set", "z", X), ins=("x", "y"), outs=("z",)))
        # What the first one returns without setting it has to stay any thing.
        lone = Piece(ins=("x",), outs=("p", "q", "x"))
        self.assertTrue(lone + Piece(ins=("p",), outs=("p",)) == Piece(("any", "p"), ("any", "q"), ins=("x",), outs=("p",)))
        both = Piece(("any", "q"), ("set", "r", X), outs=("p", "q", "r")) + Piece(("any", "v"), ins=("q",), outs=("u", "w"))
        self.same([both.steps, both.ins, both.outs], [(("any", "p"), ("any", "q"), ("set", "r", X), ("any", "u"), ("any", "v"),
                                                       ("any", "w"), ("any", "v")), (), ("u", "w")])
        self.assertTrue(Piece() + Piece() == Piece())
        self.same([len(one), str(one + further)], [1, "piece of 3 steps: x to z"])

    def test_what_cannot_be_joined(self):
        one = spelled("x := g(x)", ins="x", outs="x")
        for value in NO_PIECES:
            self.raises(InvalidOperation, one.__add__, value)
        for other in (spelled(ins="y"), spelled(ins="xy"), spelled("x := g(x,x)", ins="x"), spelled("x := g", ins="x"),
                      spelled("z := y", ins="z"), Piece(("any", "g")), Piece(("same", ("x",), A)), Piece(("same", ("xin",), A)), Piece(outs=("xout",)),
                      Piece(("same", ("xin", A), A))):
            self.raises(InvalidOperation, one.__add__, other)
        # A register of one is a register of the other, or no name of it, both ways.
        self.raises(InvalidOperation, spelled("x := y", ins="x", outs="x").__add__, Piece(("any", "y"), ins=("x",)))
        self.raises(InvalidOperation, Piece(("any", "y"), ins=("x",), outs=("x",)).__add__, spelled("x := y", ins="x"))
        self.raises(InvalidOperation, Piece(("same", ("yin",), A)).__add__, Piece(("any", "y")))
        self.raises(InvalidOperation, Piece(("same", g(A), A)).__add__, Piece(("same", ("a", B), B)))

    def test_too_many_steps_or_registers(self):
        ten, eleven = [Piece(*[("set", "x", X)] * many, ins=("x",), outs=("x",)) for many in (10, 11)]
        self.same(len(ten + ten), 20)
        self.raises(InvalidCode, ten.__add__, eleven)
        # The steps `any` for y and z count, too.
        first = Piece(*[("set", "x", X)] * 10, outs=("x", "y"))
        eight, nine = [Piece(*[("any", "x")] * many, ins=("x",), outs=("z",)) for many in (8, 9)]
        self.same(len(first + eight), 20)
        self.raises(InvalidCode, first.__add__, nine)
        names = tuple(name for name, in parts.cells(101))
        self.same(len((Piece(ins=names[:90]) + Piece(outs=names[90:100])).registers), 100)
        self.raises(InvalidCode, Piece(ins=names[:90]).__add__, Piece(outs=names[90:]))
        # What does not go together is told ahead of what is too much.
        self.raises(InvalidOperation, ten.__add__, Piece(*[("set", "y", g(Y))] * 11, ins=("y",)))

    def test_that_it_runs_one_behind_the_other(self):
        rows = samples.generator_of(143)
        found = 0
        for _ in range(400):
            one, other = random_piece(rows, 2), random_piece(rows, 2)
            try:
                both = one + other
            except InvalidOperation:
                continue
            if many_given(both) > 8:
                continue
            found += 1
            self.assertTrue(set(both.registers) == {*one.registers, *other.registers})
            world = parts.random_world(rows, 2, {**one.names, **other.names})
            things = [rows.randrange(2) for _ in one.ins]
            expected = set()
            for told in all_runs(one, world, things):
                held = dict(zip(one.outs, told))
                expected |= all_runs(other, world, [held[name] for name in other.ins])
            self.same(sorted(all_runs(both, world, things)), sorted(expected))
        self.assertGreater(found, 40)

    def test_the_book_of_both(self):
        one = spelled("t := any", "g(t) = x", "x := t", ins="x", outs="x")
        both = one + one
        self.same([fact_text(fact) for fact in both.summary().facts], ["g(g(xout))=xin"])


class TestInterchangeable(Case):
    def test_other_temporary_registers(self):
        other = renamed_piece(BACK, t="s")
        self.same([are_interchangeable(BACK, other), code_paper(BACK, other)[0]], [True, "same"])
        rows = samples.generator_of(144)
        found = 0
        for _ in range(400):
            piece = random_piece(rows)
            if "t" not in piece.registers or "t" in piece.ins + piece.outs or not parts.is_within_limits(piece.book()):
                continue
            found += 1
            other = renamed_piece(piece, t="u")
            paper = code_paper(piece, other)
            self.assertTrue(are_interchangeable(piece, other) and are_alike(piece.summary(), other.summary()))
            self.same([paper[0], is_code_paper(piece, other, paper), is_code_paper(other, piece, paper)],
                      ["same", True, True])
        self.assertGreater(found, 30)

    def test_results(self):
        for first, second, told in (
                (["x := g(x)"], ["t := g(x)", "x := t"], True), (["x := g(x)"], ["x := h(x)"], False),
                (["x = a", "x = b"], ["x = b", "a = x"], True), (["x = a"], ["x <> a"], False),
                (["x <> x"], ["a <> a", "g(x) = x"], True), (["t := any", "g(t) = x"], ["t := any", "x = g(g(t))"], True),
                (["x := any"], ["t := any", "t := any", "x := t"], True), ([], ["x = x"], True), ([], ["x := x"], True),
                ([], ["t := x", "t := g(t)"], True), (["x := a"], ["x := b"], False), (["x := any", "x = a"], ["x := a"], True)):
            one, other = spelled(*first, ins="x", outs="x"), spelled(*second, ins="x", outs="x")
            paper = code_paper(one, other)
            self.same([are_interchangeable(one, other), are_interchangeable(other, one), paper[0],
                       is_code_paper(one, other, paper), is_exchange_paper(one.book(), other.book(), paper)],
                      [told, told, "same" if told else "parted", True, True])
            if not told:
                fact = paper[1]
                wide = [piece.book().with_names(**places_in(fact)) for piece in (one, other)]
                self.same(sorted(follows(book, fact) for book in wide), [False, True])

    def test_papers(self):
        one, other = spelled("x := g(x)", ins="x", outs="x"), spelled("t := g(x)", "x := t", ins="x", outs="x")
        book = Book.read("g(xin)=xout")
        for value, told in ((("same", book), True), (("same", book.with_names(z=0)), False), (("same", Book()), False),
                            (("parted", read_fact("g(xin)=xout")), False), (("parted", read_fact("xin=xout")), False)):
            self.same(is_code_paper(one, other, value), told)
        third = spelled("x := h(x)", ins="x", outs="x")
        self.same([is_code_paper(one, third, ("parted", read_fact("g(xin)=xout"))),
                   is_code_paper(one, third, ("parted", read_fact("xin=xout"))),
                   is_code_paper(one, third, ("same", book))], [True, False, False])
        for value in ODD:
            self.same([is_code_paper(one, other, value), is_code_paper(one, other, ("same", value)),
                       is_code_paper(one, third, ("parted", value))], [False] * 3)

    def test_wrong_values(self):
        actions = (are_interchangeable, code_paper, lambda one, other: is_code_paper(one, other, 1))
        for action in actions:
            for value in NO_PIECES:
                self.raises(InvalidCode, action, value, value)
                self.raises(InvalidCode, action, BACK, value)
                self.raises(InvalidCode, action, value, BACK)
            one = spelled("x := g(x)", ins="x", outs="x")
            for other in (Piece(), spelled(ins="x"), spelled(outs="x"), spelled(ins="xy", outs="x"), spelled(
                    "x := g(x,x)", ins="x", outs="x"), spelled("g := any", ins="x", outs="x"), spelled(
                        "x := g", ins="x", outs="x")):
                self.raises(InvalidOperation, action, one, other)
                self.raises(InvalidOperation, action, other, one)
            self.raises(InvalidOperation, action, spelled("x := y", ins="x"), spelled("y := x", ins="x"))
            self.raises(InvalidOperation, action, spelled("x := yin", ins="x"), spelled("y := x", ins="x"))
            # Unlike registers are told ahead of present values that are too great.
            great = Piece(*copying(6), ins=("x",), outs=("x",))
            self.raises(InvalidOperation, action, great, Piece())
            self.raises(InvalidOperation, action, Piece(), great)

    def test_limits(self):
        six = Piece(("any", "t"), ("same", samples.chain(6, T), A), ins=("x",))
        four = Piece(("any", "t"), *[("same", ("h", T, (name,)), A) for name in "bcdex"], ins=("x",))
        plain = Piece(ins=("x",))
        for one, other, limit in ((six, plain, 6), (plain, six, 6), (four, plain, 4), (four, six, 4), (six, four, 6),
                                  (six, six, 6)):
            for action in (are_interchangeable, code_paper, lambda one, other: is_code_paper(one, other, ("same", Book()))):
                self.same(self.raises(TooMany, action, one, other).limit, limit)
            self.same([is_code_paper(one, other, value) for value in (1, ("same", 1), ("parted", read_fact("a=b")))],
                      [False] * 3)


if __name__ == "__main__":
    unittest.main()
