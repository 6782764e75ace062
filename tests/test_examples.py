"""The examples of the document, as they stand there."""

import doctest
import unittest

from shownpart.base import facts, terms, worlds
from shownpart.board import board
from shownpart.books import books
from shownpart.closing import closing, follows
from shownpart.code import pieces
from shownpart.growths import growths
from shownpart.shown import cases, exchange, fitting, middle, settled, shown
from shownpart.text import formats, shell

MODULES = (terms, worlds, facts, books, closing, follows, growths, cases, shown, fitting, middle, exchange, settled,
           pieces, board, formats, shell)

VALUES = r'''
>>> A = ("a",)
>>> B = ("b",)
>>> C = ("c",)
>>> D = ("d",)
>>> E = ("e",)
>>> PAIRED = Book.read("hidden e\nb=f(e,a)\nd=f(e,c)")
>>> RING = Book.read("hidden e\nb=f(e,a)\ne=f(e,c)")
'''

TERMS = '''
>>> deep = read_term("f(g(a),b)")
>>> [deep, levels(deep), size_of(deep), list(subterms(deep))]
[('f', ('g', ('a',)), ('b',)), 3, 4, [('a',), ('b',), ('f', ('g', ('a',)), ('b',)), ('g', ('a',))]]
>>> [text_of(replaced(deep, ("g", A), A)), text_of(renamed(deep, a="b", b="a")), places_of(deep)]
['f(a,b)', 'f(g(b),a)', {'a': 0, 'b': 0, 'f': 2, 'g': 1}]
'''

WORLDS = '''
>>> small = World(2, a=(0, {(): 1}), f=(1, {(1,): 1}))
>>> [small(("f", ("f", A))), small.at("f", 0), small.rows, str(small)]
[1, 0, (('a', 1), ('f', 1, 1)), 'world of 2 things: a, f']
>>> [small == World(2, a=(0, {(): 1}), f=(1, {(1,): 1, (0,): 0})), number_of_worlds(2, {"a": 0, "f": 1}), len(list(worlds_of(2, {"a": 0, "f": 1})))]
[True, 8, 8]
'''

FACTS = '''
>>> one, other = read_fact("a=c => b=d"), make_fact((D, B), (("f", A), E), (D, B))
>>> [one, fact_text(other)]
[(((('a',), ('c',)),), (('b',), ('d',))), 'b=d & e=f(a) => b=d']
>>> [fact_text(cut(one, read_fact("b=d & e=f(a) => never"))), fact_text(changed(one, C, ("g", A))), changed(one, D, B)]
['a=c & e=f(a) => never', 'a=g(a) => b=d', None]
'''

BOOKS = r'''
>>> [PAIRED.names, PAIRED.hidden, [fact_text(one) for one in PAIRED.facts], len(PAIRED.nodes), str(PAIRED)]
[{'a': 0, 'b': 0, 'c': 0, 'd': 0, 'e': 0, 'f': 2}, ('e',), ['b=f(e,a)', 'd=f(e,c)'], 7, 'book of 2 facts, 1 hidden']
>>> both = PAIRED | Book.read("a=c").with_names(g=1)
>>> both.text
'hidden e\nnames g/1\na=c\nb=f(e,a)\nd=f(e,c)'
'''

CLOSING = '''
>>> free, met = Closing(RING), Closing(RING, (C, A))
>>> [len(free), free.known == free.classes, free.reading(E), met.equal(met.reading(E), B), met.equal(B, ("f", B, C))]
[4, False, None, True, True]
>>> [met.classes[0], is_empty(RING | Book.read("b=c => never")), is_empty(Book.read("never"))]
[(('a',), ('c',)), False, True]
>>> [met.world().size, met.world()(E), str(met)]
[3, 1, 'closing with 2 classes']
'''

FOLLOWS = '''
>>> shut = read_fact("a=c => b=f(b,c)")
>>> [follows(RING, shut), follows(RING, read_fact("b=f(b,a)")), follow_paper(RING, read_fact("a=b"))[0], tells(RING, PAIRED.visible_part())]
[True, False, 'world', True]
>>> rows = (((A, C), "given", ()), ((B, ("f", E, A)), "fact", (read_fact("b=f(e,a)"), ())), ((("f", E, A), ("f", E, C)), "places", (None, 0)), ((B, ("f", E, C)), "link", (1, 2)), ((E, ("f", E, C)), "fact", (read_fact("e=f(e,c)"), ())), ((B, E), "link", (3, 4)))
>>> [is_follow_paper(RING, read_fact("a=c => b=e"), ("steps", rows)), [len(one) for one in cores(RING, shut)]]
[True, [2]]
'''

GROWTHS = '''
>>> flat = World.of(3, 0, {"a": (0, {}), "b": (0, {(): 1}), "c": (0, {}), "f": (2, {(1, 0): 1})})
>>> [carries(RING, flat), grown(RING, flat).size, grown(RING, flat)(E), value_at(RING, flat, E)]
[True, 3, 1, 1]
>>> apart = flat.with_table("c", 0, {(): 2})
>>> [carries(RING, apart), grown(RING, apart).size, grown(RING, apart)(E), value_at(RING, apart, E), value_at(RING, apart, ("f", E, A))]
[True, 4, 3, None, 1]
>>> [grown(RING, apart)(("f", E, B)), value_at(RING, apart, ("f", E, B))]
[0, None]
>>> [growth_paper(RING, flat.with_table("f", 2, {}))[0], is_growth(RING, apart, grown(RING, apart)), images(RING, apart, grown(RING, apart))]
['fact', True, (0, 1, 2, 3)]
'''

CASES = r'''
>>> GATES = Book.read("hidden e,h\nd=h\ne=g(h)\na=c => b=e")
>>> [hidden_classes(RING), hidden_terms(GATES), are_cases(GATES, ("h",), (((), D),))]
[((('e',), ('f', ('e',), ('c',))),), (('e',), ('g', ('h',)), ('h',)), True]
>>> [is_case(RING, E, (((A, C),), B)), is_case(RING, E, ((), B)), are_cases(RING, E, ((((A, C),), B),)), are_cases(RING, E, ())]
[True, False, True, False]
'''

SHOWN = '''
>>> [[fact_text(one) for one in shown(PAIRED).facts], is_shown(PAIRED, Book.read("a=c => b=d").with_names(f=2))]
[['a=c => b=d'], True]
>>> [is_shown(RING, Book.read("a=c => b=f(b,a)")), is_shown(RING, Book.read("b=f(b,a)")), follows(shown(RING), read_fact("a=c => b=f(b,c)"))]
[True, False, True]
>>> [shown(GATES.hide("d")) == left_out(GATES.hide("d"), "d", "e", "h"), missing_fact(PAIRED, shown(PAIRED)), missing_fact(RING, Book.read("b=f(b,a)").with_names(c=0))]
[True, None, None]
'''


FITTING = r'''
>>> apart, near = Book.read("a=c\nb=d => never"), World(2, a=(0, {}), b=(0, {(): 1}), c=(0, {}), d=(0, {(): 1}), f=(2, {}))
>>> [fits(PAIRED, apart), fits(PAIRED, Book.read("a=c"), RING.renamed(e="k")), first_unfit((PAIRED, Book.read("b=g(a)"), apart))]
[False, True, 3]
>>> second = Book.read("hidden k\nb=f(k,a)")
>>> both = glued(near, grown(PAIRED, near), grown(second, near))
>>> [both.size, both(E), both(("k",)), both.keeps(PAIRED | second)]
[4, 2, 3, True]
'''

MIDDLE = r'''
>>> other = Book.read("a=c\nb=d => never")
>>> [is_middle(PAIRED, other, Book.read("a=c => b=d")), is_middle(other, PAIRED, Book.read("a=c => b=d")), middle(PAIRED, Book.read("a=c"))]
[True, False, None]
>>> [is_middle(PAIRED, other, middle(PAIRED, other)), len(middles((PAIRED, Book.read("a=c"), Book.read("b=d => never"))))]
[True, 4]
'''

EXCHANGE = r'''
>>> plain, less = Book.read("a=c => b=d"), Book.read("hidden e\nb=f(e,a)")
>>> [are_exchangeable(PAIRED, plain), are_exchangeable(PAIRED, less), is_parted(PAIRED, less, plain.facts[0])]
[True, False, True]
>>> [part_against(plain.facts[0]).text, are_exchangeable(RING, RING | Book.read("b=f(b,a)"))]
['a=c\nb=d => never', False]
'''

SETTLED = r'''
>>> [settles(RING, E), is_settled(RING, E, B, conditions=((A, C),)), is_settled(RING, E, ("f", B, A), conditions=((A, C),))]
[None, True, True]
>>> [ways_to_settle(RING, E, ((A, B), (A, C))), settling_paper(RING, E)[0], settled_terms(RING)]
[(((('a',), ('c',)),),), 'open', ((('e',), None), (('f', ('e',), ('a',)), ('b',)), (('f', ('e',), ('c',)), None))]
'''

PIECES = r'''
>>> back = Piece(("any", "t"), ("same", ("f", ("t",), ("x",)), ("y",)), ("set", "x", ("t",)), ins=("x", "y"), outs=("x",))
>>> [back.book().text, follows(back.summary(), read_fact("f(xout,xin)=yin")), str(back)]
['hidden hiddenaa\nf(hiddenaa,xin)=yin\nhiddenaa=xout', True, 'piece of 3 steps: x, y to x']
>>> near = World(2, f=(2, {(1, 0): 1}))
>>> [back.run(near, 0, 1, given=(0, 1)), back.run(near, 0, 1, given=(1, 0)), len(back + Piece(("set", "z", ("x",)), ins=("x",), outs=("z",)))]
[(1,), None, 5]
'''

BOARD = r'''
>>> board = Board()
>>> [board.do(("put", "p", PAIRED), ("put", "q", Book.read("a=c"))), board.watch(("follows", read_fact("b=d"))), board.steps]
[(), True, 1]
>>> [board.do(("untell", "q", read_fact("a=c"))), board.undo(), tells(board.summary("b", "d"), Book.read("b=d")), str(board)]
[(('follows', ((), (('b',), ('d',)))),), (('follows', ((), (('b',), ('d',)))),), True, 'board of 2 parts, 1 steps']
'''

TEXTS = r'''
>>> shell = Shell()
>>> shell.run("put p a/0 b/0 f/1", "tell p b=f(a)", "watch follows f(a)=f(b)", "tell p a=b", "ask settled f(f(a))", "print p")
('', '', 'no\n', 'follows f(a)=f(b): yes\n', 'yes\n', 'a=b\nb=f(a)\n')
>>> [book_table(Book.read("hidden e\na=f(e)")), read_piece("ins x\nouts x\nx := f(x)\nx <> y").names]
['names a/0 e/0 f/1\nhidden e\n0 a\n1 e\n2 f 1\n0=2', {'f': 1, 'y': 0}]
'''


class TestExamples(unittest.TestCase):
    def check(self, text):
        names = {}
        for module in MODULES:
            names.update({name: value for name, value in vars(module).items() if not name.startswith("_")})
        examples = doctest.DocTestParser().get_doctest(VALUES + text, names, "examples", None, 0)
        told = []
        result = doctest.DocTestRunner(verbose=False).run(examples, out=told.append)
        self.assertEqual(result.failed, 0, "".join(told))
        self.assertEqual(result.attempted, len(examples.examples))
        self.assertGreater(result.attempted, 8)

    def test_terms(self):
        self.check(TERMS)

    def test_worlds(self):
        self.check(WORLDS)

    def test_facts(self):
        self.check(FACTS)

    def test_books(self):
        self.check(BOOKS)

    def test_closing(self):
        self.check(CLOSING)

    def test_follows(self):
        self.check(FOLLOWS)

    def test_growths(self):
        self.check(GROWTHS)

    def test_cases(self):
        self.check(CASES)

    def test_shown(self):
        self.check(CASES + SHOWN)

    def test_fitting(self):
        self.check(FITTING)

    def test_middle(self):
        self.check(MIDDLE)

    def test_exchange(self):
        self.check(EXCHANGE)

    def test_settled(self):
        self.check(SETTLED)

    def test_pieces(self):
        self.check(PIECES)

    def test_board(self):
        self.check(BOARD)

    def test_texts(self):
        self.check(TEXTS)


if __name__ == "__main__":
    unittest.main()
