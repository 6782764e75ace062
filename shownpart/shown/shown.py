"""Shown books: what a book with hidden names tells about the visible ones."""

from shownpart.base.terms import is_name
from shownpart.books.books import Book, book_of, check_book
from shownpart.closing.follows import lean, tells
from shownpart.closing.rules import fact_from
from shownpart.errors import InvalidBook, InvalidName, UnknownName
from shownpart.shown.limits import check_limits
from shownpart.shown.search import Search


def shown(book):
    """A shown book of the book."""
    check_book(book)
    return left_out_all(book, book.hidden)


def left_out(book, *names):
    """A book that comes from leaving out some hidden names."""
    check_book(book)
    check_hidden(book, names)
    return left_out_all(book, names)


def left_out_all(book, names):
    """A book that comes from leaving out a tuple of hidden names."""
    check_book(book)
    if not isinstance(names, tuple) or not all([is_name(name) for name in names]):
        raise InvalidName("no tuple of names")
    check_hidden(book, names)
    gone = {name: True for name in names}
    check_limits(book, gone, [])
    places = {name: book.contents.places[name] for name in book.contents.places if name not in gone}
    hidden = [name for name in book.hidden if name not in gone]
    return lean(book_of(facts_without(book, gone), hidden, places))


def is_shown(book, value):
    """Whether the value is a shown book of the book, perhaps with spare facts."""
    check_book(book)
    if not isinstance(value, Book) or not has_visible_names(book, value):
        return False
    check_limits(book, book.contents.secret, [])
    return tells(book, value) and fact_missing(book, value) is None


def missing_fact(book, other):
    """A fact over the names of another book that follows from the book and not from the other one, or `None`."""
    check_book(book)
    check_book(other)
    if not has_visible_names(book, other):
        raise InvalidBook("hidden names, or not just the visible names of the book")
    check_limits(book, book.contents.secret, [])
    return fact_missing(book, other)


def shown_facts(book):
    """The facts of a shown book, one after the other; some of them can be spare."""
    check_book(book)
    check_limits(book, book.contents.secret, [])
    facts = book_of(facts_without(book, book.contents.secret), (), book.contents.places).facts
    for fact in facts:
        yield fact


def facts_without(book, gone):
    """Facts without some hidden names, from which all such facts follow that follow from the book."""
    search = Search(book, gone, False)
    search.tell_visible_rules()
    search.check_hidden_rules()
    return search.told_facts()


def fact_missing(book, other):
    """A visible fact that follows from the book and not from another one, or `None`."""
    search = Search(book, book.contents.secret, True)
    search.tell_facts(other.facts)
    search.check_visible_rules()
    search.check_hidden_rules()
    return fact_from(search.store, search.found[0]) if search.found else None


def has_visible_names(book, other):
    """Whether another book has just the visible names of the book, with their places, and none of them hidden."""
    return not other.hidden and other.names == {name: book.contents.places[name] for name in book.visible}


def check_hidden(book, names):
    """Raise `UnknownName` for the first of some values that is no hidden name of the book."""
    for name in names:
        if not isinstance(name, str) or name not in book.contents.secret:
            raise UnknownName(name)
