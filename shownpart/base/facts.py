"""Facts: two terms are equal, or are if others are, or some never are together."""

from shownpart.base.terms import by_name, check_renaming, check_term, has_names, joint_places, read_term
from shownpart.base.walks import ascending, put_in, with_names, written
from shownpart.errors import InvalidFact, InvalidOperation, ParseError


def is_pair(value):
    """Whether the value is a pair."""
    return are_couples([value]) and is_ordered(value)


def is_fact(value):
    """Whether the value is a fact."""
    if not is_couple(value) or not isinstance(value[0], tuple):
        return False
    pairs = pairs_in(value)
    if not are_couples(pairs) or not all([is_ordered(pair) for pair in pairs]):
        return False
    keys = [key_of(pair) for pair in value[0]]
    return all([key < further for key, further in zip(keys, keys[1:])])


def make_pair(term, other):
    """The pair of two terms."""
    check_term(term)
    check_term(other)
    pairs = pairs_of([(term, other)])
    if not pairs:
        raise InvalidOperation("a pair of equal terms")
    if joint_places([term, other]) is None:
        raise InvalidFact("a name with unlike places")
    return pairs[0]


def make_fact(conclusion, *conditions):
    """The fact with a conclusion, or `None`, and conditions, which are tuples of two terms in any order."""
    couples = list(conditions)
    if conclusion is not None:
        couples.append(conclusion)
    if not are_couples(couples):
        raise InvalidFact("no tuples of two terms, or a name with unlike places")
    result = fact_of(conclusion, conditions)
    if result is None:
        raise InvalidFact("a conclusion of equal terms")
    return result


def places_in(fact):
    """A dict from the names in the fact to their places."""
    check_fact(fact)
    return by_name(joint_places(sides_of(pairs_in(fact))))


def terms_of(fact):
    """The ascending tuple of the different terms of the pairs of the fact."""
    check_fact(fact)
    terms = {written(term): term for term in sides_of(pairs_in(fact))}
    return tuple([terms[key] for key in sorted(terms)])


def nodes_of(fact):
    """The ascending tuple of the different subterms of the fact."""
    check_fact(fact)
    return ascending(sides_of(pairs_in(fact)))


def cut(fact, second):
    """The fact that follows from two others by a cut, or `None`."""
    check_fact(fact)
    check_fact(second)
    if joint_places(sides_of(pairs_in(fact) + pairs_in(second))) is None:
        raise InvalidFact("a name with unlike places")
    if fact[1] is None:
        return None
    rest = [pair for pair in second[0] if key_of(pair) != key_of(fact[1])]
    if len(rest) == len(second[0]):
        return None
    result = fact_of(second[1], [*fact[0], *rest])
    return None if says_nothing(result) else result


def changed(fact, old, new):
    """The fact with the term `new` in the place of `old`, or `None` if its conclusion has equal terms then."""
    check_fact(fact)
    check_term(old)
    check_term(new)
    couples = [(put_in(one, old, new), put_in(other, old, new)) for one, other in pairs_in(fact)]
    if not are_couples(couples):
        raise InvalidFact("a name with unlike places")
    conclusion = None if fact[1] is None else couples.pop()
    return fact_of(conclusion, couples)


def fact_renamed(fact, **names):
    """The fact with other names, told by keywords."""
    return fact_renamed_by(fact, names)


def fact_renamed_by(fact, names):
    """The fact with other names, told by a dict."""
    check_fact(fact)
    check_renaming(joint_places(sides_of(pairs_in(fact))), names)
    couples = [(with_names(one, names), with_names(other, names)) for one, other in pairs_in(fact)]
    conclusion = None if fact[1] is None else couples.pop()
    return fact_of(conclusion, couples)


def fact_text(fact):
    """The text of the fact."""
    check_fact(fact)
    end = "never" if fact[1] is None else "=".join(key_of(fact[1]))
    if not fact[0]:
        return end
    return " & ".join(["=".join(key_of(pair)) for pair in fact[0]]) + " => " + end


def read_fact(text):
    """The fact with this text."""
    if not isinstance(text, str):
        raise ParseError("no text of a fact")
    parts = text.split(" => ")
    conclusion = None if parts[-1] == "never" else read_couple(parts[-1])
    conditions = [read_couple(word) for part in parts[:-1] for word in part.split(" & ")]
    result = (tuple(conditions), conclusion)
    if len(parts) > 2 or not is_fact(result):
        raise ParseError("no text of a fact")
    return result


def check_fact(value):
    """Raise `InvalidFact` if the value is no fact."""
    if not is_fact(value):
        raise InvalidFact("no fact, or a name with unlike places")


def check_fact_over(value, places):
    """Raise `InvalidFact` if the value is no fact, or not one over names with these places."""
    check_fact(value)
    if not has_names(places, joint_places(sides_of(pairs_in(value)))):
        raise InvalidFact("a fact over other names")


def is_couple(value):
    """Whether the value is a tuple of two values."""
    return isinstance(value, tuple) and len(value) == 2


def are_couples(values):
    """Whether all values are tuples of two terms, and each name has one number of places in all of them."""
    if not all([is_couple(value) for value in values]):
        return False
    return joint_places(sides_of(values)) is not None


def is_ordered(couple):
    """Whether the first one of two terms is less than the second one."""
    one, other = key_of(couple)
    return one < other


def key_of(couple):
    """The texts of two terms, which have the order of the terms."""
    return (written(couple[0]), written(couple[1]))


def sides_of(couples):
    """The list of all terms of some tuples of two."""
    return [term for couple in couples for term in couple]


def pairs_in(fact):
    """The list of the conditions of a fact, with its conclusion behind them if it has one."""
    return list(fact[0]) if fact[1] is None else [*fact[0], fact[1]]


def pairs_of(couples):
    """The ascending tuple of the different pairs of tuples of two terms; equal terms make no pair."""
    found = {}
    for one, other in couples:
        first, second = key_of((one, other))
        if first < second:
            found[(first, second)] = (one, other)
        elif second < first:
            found[(second, first)] = (other, one)
    return tuple([found[key] for key in sorted(found)])


def fact_of(conclusion, conditions):
    """The fact of tuples of two terms, or `None` if the conclusion has two equal ones."""
    pairs = pairs_of(conditions)
    if conclusion is None:
        return (pairs, None)
    last = pairs_of([conclusion])
    return (pairs, last[0]) if last else None


def says_nothing(fact):
    """Whether the conclusion of a fact is one of its conditions."""
    return fact[1] is not None and key_of(fact[1]) in [key_of(pair) for pair in fact[0]]


def read_couple(text):
    """The tuple of the two terms with an equality sign between their texts."""
    sides = text.split("=")
    if len(sides) != 2:
        raise ParseError("no text of a pair")
    return (read_term(sides[0]), read_term(sides[1]))
