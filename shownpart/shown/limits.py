"""How much may be hidden in what is shown."""

from shownpart.base.facts import places_in
from shownpart.base.walks import order_of, rows_and_roots, terms_from
from shownpart.books.books import stands_hidden
from shownpart.closing.closing import is_empty
from shownpart.errors import TooMany

MAX_HIDDEN_TERMS = 6
MAX_HIDDEN_FACTS = 4


def check_limits(book, hidden, terms):
    """Raise `TooMany` if these hidden names stand in too many terms, of the book or further ones, or facts of it."""
    if is_empty(book):
        return
    if len(terms_with(hidden, [*book.nodes, *terms])) > MAX_HIDDEN_TERMS:
        raise TooMany(MAX_HIDDEN_TERMS)
    if len([fact for fact in book.facts if stands_hidden(hidden, places_in(fact))]) > MAX_HIDDEN_FACTS:
        raise TooMany(MAX_HIDDEN_FACTS)


def terms_with(hidden, terms):
    """The ascending tuple of the different subterms of some terms in which hidden names stand."""
    rows, _ = rows_and_roots(terms)
    found = {}
    for number, row in enumerate(rows):
        if row[0] in hidden or any([below in found for below in row[1:]]):
            found[number] = True
    told = terms_from(rows)
    return tuple([told[number] for number in order_of(rows) if number in found])
