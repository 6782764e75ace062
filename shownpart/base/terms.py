"""Terms: a name with as many terms as it has places."""

from shownpart.base.walks import ascending, occurs, preorder, put_in, with_names, written
from shownpart.errors import InvalidName, InvalidOperation, InvalidTerm, ParseError

MAX_PLACES = 3
LONGEST_NAME = 8


def is_name(value):
    """Whether the value is a name."""
    if not isinstance(value, str) or len(value) > LONGEST_NAME:
        return False
    return value.isascii() and value.isalpha() and value.islower()


def is_term(value):
    """Whether the value is a term."""
    return joint_places([value]) is not None


def is_cell(value):
    """Whether the value is a term with 0 places."""
    return is_term(value) and len(value) == 1


def make_term(name, *terms):
    """The term with this name and these terms."""
    if not is_name(name):
        raise InvalidName("no name")
    result = (name, *terms)
    check_term(result)
    return result


def make_cells(*names):
    """The tuple of the cells with these names."""
    for name in names:
        if not is_name(name):
            raise InvalidName("no name")
    return tuple([(name,) for name in names])


def places_of(term):
    """A dict from the names in the term to their places."""
    check_term(term)
    return by_name(joint_places([term]))


def levels(term):
    """The number of levels."""
    check_term(term)
    many = 0
    level = [term]
    while level:
        many += 1
        level = [below for part in level for below in part[1:]]
    return many


def size_of(term):
    """The number of subterms, repeats counted."""
    check_term(term)
    return len(preorder([term]))


def subterms(term):
    """The different subterms, ascending, one after the other."""
    check_term(term)
    for part in ascending([term]):
        yield part


def stands_in(term, other):
    """Whether the term is a subterm of the other one."""
    check_term(term)
    check_term(other)
    return occurs(term, other)


def replaced(term, old, new):
    """The term with `new` in the place of each subterm `old`."""
    check_term(term)
    check_term(old)
    check_term(new)
    result = put_in(term, old, new)
    check_term(result)
    return result


def renamed(term, **names):
    """The term with other names, told by keywords."""
    return renamed_by(term, names)


def renamed_by(term, names):
    """The term with other names, told by a dict."""
    check_term(term)
    check_renaming(joint_places([term]), names)
    return with_names(term, names)


def text_of(term):
    """The text of the term."""
    check_term(term)
    return written(term)


def read_term(text):
    """The term with this text."""
    result = parsed(words_in(text)) if isinstance(text, str) else None
    if not is_term(result):
        raise ParseError("no text of a term")
    return result


def check_term(value):
    """Raise `InvalidTerm` if the value is no term."""
    if not is_term(value):
        raise InvalidTerm("no term, or a name with unlike places")


def check_term_over(value, places):
    """Raise `InvalidTerm` if the value is no term, or not one over names with these places."""
    found = joint_places([value])
    if found is None or not has_names(places, found):
        raise InvalidTerm("no term, or not over these names")


def check_renaming(places, names):
    """Raise an error if `names` does not rename, or makes two of the names in `places` one."""
    if not isinstance(names, dict) or not all([is_name(name) and is_name(names[name]) for name in names]):
        raise InvalidName("no dict from names to names")
    if len({names.get(name, name) for name in places}) < len(places):
        raise InvalidOperation("two names become one")


def joint_places(values):
    """A dict from the names in these values to their places.

    It is `None` if a value is no term, or a name has unlike places in all of them together.
    """
    places = {}
    waiting = list(values)
    while waiting:
        part = waiting.pop()
        if not has_form(part):
            return None
        many = len(part) - 1
        if places.setdefault(part[0], many) != many:
            return None
        waiting.extend(part[1:])
    return places


def has_names(places, wanted):
    """Whether all wanted names are among those with places, with equal places."""
    return all([places.get(name) == wanted[name] for name in wanted])


def has_form(value):
    """Whether the value is a tuple of a name and as many other values as a name may have places."""
    return isinstance(value, tuple) and 1 <= len(value) <= MAX_PLACES + 1 and is_name(value[0])


def by_name(places):
    """The dict with its keys ascending."""
    return {name: places[name] for name in sorted(places)}


def words_in(text):
    """The names and signs of a text, in order; none if another character stands in it."""
    letters = text.replace("(", "").replace(")", "").replace(",", "")
    # Blanks would get lost between the words.
    if not letters.isalpha():
        return []
    return text.replace("(", " ( ").replace(")", " ) ").replace(",", " , ").split()


def parsed(words):
    """The term that these names and signs tell, whatever its names are, or `None`."""
    heads = []
    rows = [[]]
    last = "("
    for word in words:
        ended = last not in ("(", ",")
        if word.isalpha():
            if ended:
                return None
            rows[-1].append((word,))
        elif word == "(":
            if not last.isalpha():
                return None
            # What looked like a cell was the name in front of this bracket.
            rows[-1].pop()
            heads.append(last)
            rows.append([])
        elif not ended or not heads:
            return None
        elif word == ")":
            row = rows.pop()
            rows[-1].append((heads.pop(), *row))
        last = word
    return rows[0][0] if last not in ("(", ",") and not heads else None
