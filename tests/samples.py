"""Values for the tests: wrong ones of every kind, random right ones, and plain definitions to compare with."""

import random

from shownpart.errors import InvalidNumber, InvalidTerm

A, B, C, D, E = ("a",), ("b",), ("c",), ("d",), ("e",)


def nested(kind, many, value):
    """The value within so many tuples, lists or dicts."""
    for _ in range(many):
        value = {"a": value} if kind is dict else kind([value])
    return value


# None of these is a name, a term, a pair, a fact, or the text of one.
WRONG = [
    0, 1, -1, 3, 10 ** 60 - 1, 1 - 10 ** 60, True, False, None,
    "", " ", "A", "aB", "a b", "a1", "a\n", "\n", "a_b", "abcdefghi", "a(", "%s", "~" * 300, "a" * 300,
    (), [], {}, [()], ((),), ("",), ("A",), (1,), (True,), (None,), (("a",),), ["a"], [("a",)], ("a", "b"),
    ("a", None), ("a", ("b",), 3), ("a", ["b"]), ("a", [("b",)]), ("a", ()), ("a", A, A, A, A), ("abcdefghi",),
    ("a", A), ("f", ("f", A, A)), ("f", A, ("f", A)), {"A": "a"}, {"a": 1}, {1: "a"}, {"a": A}, {A: "a"},
    {None: None}, (A, A), (B, A), (A, [B[0]]), [A, B], (A, B, C), (A,), (A, None), (None, None),
    ([], None), ((), ()), ((A, B), None), (((A, B),), A), (((A, B),), (B, A)), (((B, A),), None),
    (((A, C), (A, B)), None), (((A, B), (A, B)), None), ([(A, B)], None), (((A, B),),), (((A, B),), None, None),
    (((A, ("a", B)),), None), (((A, B),), (C, ("b", C))), InvalidTerm("no term"), InvalidNumber(1),
    nested(tuple, 10, "a"), nested(list, 10, "a"), nested(dict, 10, "a"), nested(tuple, 9, A), nested(list, 9, None),
]


def plain_name(value):
    return isinstance(value, str) and 1 <= len(value) <= 8 and all("a" <= sign <= "z" for sign in value)


def plain_parts(value):
    """All subterms, or None if the value has not the form of a term."""
    if not isinstance(value, tuple) or not 1 <= len(value) <= 4 or not plain_name(value[0]):
        return None
    found = [value]
    for below in value[1:]:
        parts = plain_parts(below)
        if parts is None:
            return None
        found += parts
    return found


def plain_places(terms):
    """The places of all names, or None if one is no term or a name has unlike places."""
    places = {}
    for term in terms:
        parts = plain_parts(term)
        if parts is None:
            return None
        for part in parts:
            if places.setdefault(part[0], len(part) - 1) != len(part) - 1:
                return None
    return dict(sorted(places.items()))


def plain_term(value):
    return plain_places([value]) is not None


def plain_pair(value):
    if not isinstance(value, tuple) or len(value) != 2 or plain_places(value) is None:
        return False
    return value[0] < value[1]


def plain_fact(value):
    if not isinstance(value, tuple) or len(value) != 2 or not isinstance(value[0], tuple):
        return False
    pairs = list(value[0]) + ([] if value[1] is None else [value[1]])
    if not all(plain_pair(pair) for pair in pairs):
        return False
    if plain_places([term for pair in pairs for term in pair]) is None:
        return False
    return list(value[0]) == sorted(set(value[0]))


def plain_text(term):
    return term[0] + ("(" + ",".join(plain_text(below) for below in term[1:]) + ")" if len(term) > 1 else "")


def plain_fact_text(fact):
    told = ["=".join(plain_text(term) for term in pair) for pair in fact[0]]
    end = "never" if fact[1] is None else "=".join(plain_text(term) for term in fact[1])
    return " & ".join(told) + " => " + end if told else end


def plain_replaced(term, old, new):
    if term == old:
        return new
    return (term[0], *[plain_replaced(below, old, new) for below in term[1:]])


def plain_renamed(term, names):
    return (names.get(term[0], term[0]), *[plain_renamed(below, names) for below in term[1:]])


def plain_fact_of(conclusion, conditions):
    """The fact of tuples of two terms, or None if the conclusion has equal ones."""
    pairs = tuple(sorted({tuple(sorted(pair)) for pair in conditions if pair[0] != pair[1]}))
    if conclusion is None:
        return (pairs, None)
    return None if conclusion[0] == conclusion[1] else (pairs, tuple(sorted(conclusion)))


# Names that are beginnings of one another, with all numbers of places.
SOME_NAMES = {"a": 0, "aa": 0, "b": 0, "ab": 1, "f": 1, "fa": 2, "g": 2, "gab": 3}


def random_term(rows, depth=3):
    names = [name for name in SOME_NAMES if depth or not SOME_NAMES[name]]
    name = rows.choice(names)
    return (name, *[random_term(rows, depth - 1) for _ in range(SOME_NAMES[name])])


def random_couple(rows, depth=2):
    return (random_term(rows, rows.randint(0, depth)), random_term(rows, rows.randint(0, depth)))


def random_fact(rows, depth=2):
    while True:
        conclusion = None if rows.random() < 0.3 else random_couple(rows, depth)
        fact = plain_fact_of(conclusion, [random_couple(rows, depth) for _ in range(rows.randint(0, 3))])
        if fact is not None:
            return fact


def generator_of(seed):
    """Random choices that are the same in each run."""
    return random.Random(seed)


def parts_replaced(value, new):
    """The values that come from one by putting another one in the place of one part of it."""
    yield new
    if isinstance(value, tuple):
        for k, part in enumerate(value):
            for other in parts_replaced(part, new):
                yield value[:k] + (other,) + value[k + 1:]


def full_tree(levels):
    """A term in which each name f stands over two terms; with 8 levels it has 255 subterms."""
    term = A
    for _ in range(levels - 1):
        term = ("f", term, term)
    return term


def chain(many, end=A, name="s"):
    """A term with so many names above its end."""
    for _ in range(many):
        end = (name, end)
    return end
