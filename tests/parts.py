"""Books and worlds for the tests, and plain definitions of what they mean to compare with."""

import inspect
import itertools

from shownpart.base.facts import make_fact, places_in
from shownpart.base.terms import read_term
from shownpart.base.worlds import World
from shownpart.board.board import Board
from shownpart.books.books import Book
from shownpart.closing.closing import Closing
from shownpart.code.pieces import Piece
from shownpart.errors import InvalidEdit, NothingToUndo, Unfit
from shownpart.text.shell import Shell
from tests.samples import A, B, C, D, E, WRONG, nested


def loose_fact(line):
    """The fact that a line tells, with its terms and conditions in any order."""
    ends = line.split(" => ")
    words = [word for end in ends[:-1] for word in end.split(" & ")]
    pairs = [tuple(read_term(side) for side in word.split("=")) for word in [*words, ends[-1]] if word != "never"]
    return make_fact(None, *pairs) if ends[-1] == "never" else make_fact(pairs[-1], *pairs[:-1])


def loose(hidden, *lines, **names):
    """The book of facts that lines tell in any order, and of hidden names, one behind the other."""
    return Book(*[loose_fact(line) for line in lines], hidden=tuple(hidden.split()), names=names)


PAIRED = Book.read("hidden e\nb=f(e,a)\nd=f(e,c)")
RING = Book.read("hidden e\nb=f(e,a)\ne=f(e,c)")
GATES = Book.read("hidden e,h\nd=h\ne=g(h)\na=c => b=e")
NEVER = ((), None)
EMPTY = Book.read("hidden e\nnames a/0,b/0,e/0,f/1\nnever")
FLAT = World.of(3, 0, {"a": (0, {}), "b": (0, {(): 1}), "c": (0, {}), "f": (2, {(1, 0): 1})})
APART = FLAT.with_table("c", 0, {(): 2})

# None of these is a name, a term, a fact, a tuple of such, or a text.
ODD = [*WRONG, Book(), RING, World(1), FLAT, Closing(RING), nested(tuple, 9, RING), nested(list, 9, FLAT),
       Piece(), Piece(("any", "x"), outs=("x",)), Board(), Shell(), Unfit(("fit", World(1))), NothingToUndo(1),
       InvalidEdit("no edit"), nested(dict, 9, Board()), (Piece(), Board()), ("fits", Board())]

# No number of things, no thing of a world of one or two things, and no number of places.
NO_NUMBERS = [value for value in ODD if value not in (0, 1, 3) or isinstance(value, bool)] + [-1, 401, 10 ** 60 - 1]


def f(*below):
    return ("f", *below)


def g(*below):
    return ("g", *below)


def cells(many, letter="x"):
    """So many cells, ascending, with names of three letters."""
    letters = "abcdefghijklmnopqrstuvwxyz"
    return [(letter + letters[k // 26] + letters[k % 26],) for k in range(many)]


def plain_signature(action):
    return str(inspect.signature(action))


def book_of_nodes(many):
    """A book with so many nodes: cells, each fact with two more of them."""
    terms = cells(many)
    facts = [((), (terms[k], terms[k + 1])) for k in range(0, many - 1, 2)]
    if many % 2:
        facts.append(((), (terms[0], terms[-1])))
    return facts


def plain_value(world, term):
    return world.at(term[0], *[plain_value(world, below) for below in term[1:]])


def plain_pair_holds(world, pair):
    return plain_value(world, pair[0]) == plain_value(world, pair[1])


def plain_holds(world, fact):
    if not all(plain_pair_holds(world, pair) for pair in fact[0]):
        return True
    return fact[1] is not None and plain_pair_holds(world, fact[1])


def plain_keeps(world, book):
    return all(plain_holds(world, fact) for fact in book.facts)


def plain_nodes(terms):
    found = set()
    for term in terms:
        found.add(term)
        found |= plain_nodes(term[1:])
    return found


def plain_closing(book, pairs=(), terms=()):
    """The classes of a closing as a sorted list of sorted lists, and whether it failed."""
    told = [pair for fact in book.facts for pair in [*fact[0], fact[1]] if pair is not None]
    sides = [term for pair in [*told, *pairs] for term in pair]
    found = {node: {node} for node in plain_nodes([*sides, *terms])}

    def join(one, other):
        if found[one] is found[other]:
            return False
        both = found[one] | found[other]
        for node in both:
            found[node] = both
        return True

    def are_joined(one, other):
        return found[one] is found[other]

    for one, other in pairs:
        join(one, other)
    going = True
    while going:
        going = False
        for conditions, conclusion in book.facts:
            if conclusion is not None and all(are_joined(*pair) for pair in conditions):
                going = join(*conclusion) or going
        for one, other in itertools.combinations(found, 2):
            if one[0] == other[0] and all(are_joined(*pair) for pair in zip(one[1:], other[1:])):
                going = join(one, other) or going
    failed = any(fact[1] is None and all(are_joined(*pair) for pair in fact[0]) for fact in book.facts)
    return sorted(sorted(group) for group in {id(group): group for group in found.values()}.values()), failed


def plain_known(book, classes):
    """The known classes of a closing with these classes."""
    place = {node: k for k, group in enumerate(classes) for node in group}
    known = set()
    going = True
    while going:
        going = False
        for node, k in place.items():
            if k not in known and node[0] not in book.hidden and all(place[below] in known for below in node[1:]):
                known.add(k)
                going = True
    return [group for k, group in enumerate(classes) if k in known]


def plain_follows(book, fact):
    terms = [term for pair in [*fact[0], fact[1]] if pair is not None for term in pair]
    classes, failed = plain_closing(book, fact[0], terms)
    if failed:
        return True
    return fact[1] is not None and any(set(fact[1]) <= set(group) for group in classes)


# Hidden names are e, h and k.
PLACES = {"a": 0, "b": 0, "c": 0, "d": 0, "e": 0, "f": 2, "g": 1, "h": 0, "k": 1}
HIDDEN = ("e", "h", "k")
SETS = (("a", "b", "c", "f", "e"), ("a", "b", "c", "d", "g", "e", "h"), ("a", "b", "c", "k"),
        ("a", "b", "c", "g", "k", "e"), ("a", "b", "c", "f", "e", "h"), tuple(PLACES))


def random_term(rows, depth, names):
    name = rows.choice([name for name in names if depth or not PLACES[name]])
    return (name, *[random_term(rows, depth - 1, names) for _ in range(PLACES[name])])


def random_pair(rows, depth, names):
    while True:
        one, other = [random_term(rows, rows.randint(0, depth), names) for _ in range(2)]
        if one != other:
            return (one, other)


def random_fact(rows, depth, names):
    conditions = [random_pair(rows, depth, names) for _ in range(rows.choice((0, 0, 0, 1, 1, 2)))]
    conclusion = None if conditions and rows.random() < 0.15 else random_pair(rows, depth, names)
    return make_fact(conclusion, *conditions)


def random_book(rows, names=None, many=None, depth=None):
    names = names or rows.choice(SETS)
    depth = depth or rows.choice((1, 1, 2))
    facts = [random_fact(rows, depth, names) for _ in range(many or rows.randint(1, 5))]
    used = {name for fact in facts for name in places_in(fact)}
    further = {name: PLACES[name] for name in names if name not in HIDDEN}
    return Book(*facts, hidden=tuple(name for name in HIDDEN if name in used), names=further)


def is_within_limits(book, hidden=None):
    """Whether a book that is not empty has no more hidden terms and facts with hidden names than can be shown."""
    hidden = book.hidden if hidden is None else hidden
    terms = [node for node in book.nodes if plain_names(node) & set(hidden)]
    facts = [fact for fact in book.facts if set(places_in(fact)) & set(hidden)]
    return plain_closing(book)[1] or len(terms) <= 6 and len(facts) <= 4


def plain_names(term):
    """The set of the names in a term."""
    return {part[0] for part in plain_nodes([term])}


def random_apart_books(rows, many):
    """So many random books, each two of them apart, and none with too much that is hidden; often they do not fit."""
    books = []
    while len(books) < many:
        book = random_book(rows, rows.choice(SETS[:5]), rows.randint(1, 4), 1)
        cells = [(name,) for name in book.visible if book.names[name] == 0]
        if rows.random() < 0.7:
            pair = tuple(sorted(rows.sample(cells, 2)))
            book = book.with_facts(((pair,), None) if rows.random() < 0.6 else ((), pair))
        if is_within_limits(book):
            books.append(book.renamed_by({name: name + "xyz"[len(books)] for name in book.hidden}))
    return tuple(books)


def random_world(rows, size, places):
    tables = {}
    for name, many in places.items():
        keys = itertools.product(range(size), repeat=many)
        tables[name] = (many, {key: rows.randrange(size) for key in keys})
    return World.of(size, rows.randrange(size), tables)


def visible_places(book):
    return {name: book.names[name] for name in book.visible}
