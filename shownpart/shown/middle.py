"""Middle books: what stands between parts that do not fit."""

from shownpart.base.terms import has_names
from shownpart.books.books import Book
from shownpart.books.joining import check_books, joined, names_of, narrowed
from shownpart.closing.closing import is_empty
from shownpart.closing.follows import tells
from shownpart.errors import InvalidOperation
from shownpart.shown.fitting import NEVER
from shownpart.shown.shown import shown


def middle(first, second):
    """A middle book of two books that are apart, or `None` if they fit."""
    check_books((first, second))
    if not is_empty(joined((first, second))):
        return None
    return shown(narrowed(first, second.contents.places))


def is_middle(first, second, value):
    """Whether the value is a middle book of two books that are apart."""
    check_books((first, second))
    if not stands_between(value, first.contents.places, second.contents.places):
        return False
    return tells(first, value) and is_empty(joined((value, second)))


def middles(books):
    """A row of middle books, or `None` if the books of a tuple fit."""
    check_books(books)
    if not is_empty(joined(books)):
        return None
    row = [Book()]
    for many in range(1, len(books)):
        row.append(shown(narrowed(joined(books[:many]), names_of(books[many:]))))
    return (*row, Book(NEVER))


def are_middles(books, value):
    """Whether the value is a row of middle books."""
    check_books(books)
    if not isinstance(value, tuple) or len(value) != len(books) + 1:
        return False
    for many in range(len(value)):
        if not stands_between(value[many], names_of(books[:many]), names_of(books[many:])):
            return False
    if value[0].facts or not is_empty(value[-1]):
        return False
    return all([is_next(value[k], books[k], value[k + 1]) for k in range(len(books))])


def reaches(first, second, third):
    """Whether what the first book tells about the names of the third one follows from the second one."""
    check_books((first, second, third))
    common = [name for name in first.contents.places if name in third.contents.places]
    if not all([name in second.contents.places for name in common]):
        raise InvalidOperation("a common name that the second book does not have")
    return tells(second, shown(narrowed(first, third.contents.places)))


def stands_between(value, places, further):
    """Whether the value is a book without hidden names, whose names have these places on both sides."""
    if not isinstance(value, Book) or value.hidden:
        return False
    return has_names(places, value.contents.places) and has_names(further, value.contents.places)


def is_next(before, book, after):
    """Whether all facts of a middle book follow from the one before and the book between them."""
    names = Book(names=after.contents.places)
    return tells(joined((before, book, names)), after)
